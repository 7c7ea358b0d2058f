import PyProof.Rows.All
import Wide.All
import OpenK.AllK
import Wide.FinOn
import PySem.Challenge.RW_deedworlds_k73_products_and_sides
import HandS.Base
import HandS.Call
import HandS.List
import HandS.Comp
import HandS.Iter
import HandS.Evl
import HandS.Words
import KE.GoesMore
import KE.GoesEnum
import PyProof.ReprRoads
import PyProof.AutoIntOps
import HandS.Ends
import HandS.ForMost
import HandS.IsInst
import HandS.Zip
import HandS.TupAny
import HandS.Conv
import HandS.NoneIn
import HandS.More
import HandS.Wide
import HandS.Walk
import HandS.ReCall
import KE.KIndexOf
import PyProof.Rows.RegFStrParts
import KE.KDictPairs
import KE.KDictZip
import HandS.Dict
import HandS.Set
import HandS.SetFor
import HandS.TupSets
import PyProof.Rows.SortStr
import HandS.Strs
import HandS.Deep
import KE.DatumOrd
import PyProof.Rows.SetFrom
import KE.SortData
import HandS.Style
import KE.GoesZip
import PyProof.ListStr
import HandS.FStr
import HandS.DictComp
import HandS.ListItems
import HandS.Text
import KE.KEqDict
import KE.KDictItemsList
import HandS.TupMul
import HandS.Exc
import HandS.ExcOwn
import HandS.WordsExc
import KE.KExcIs
import HandS.ExcIs
import PyProof.RowDictHeap
import PyProof.ReprLen
import HandS.RaiseMore
import KE.KTupSum
import HandS.SortKw
import HandS.Sort
import HandS.Codes
import KE.RegKIsAll
set_option Elab.async false
set_option linter.all false
set_option maxRecDepth 100000
set_option maxHeartbeats  4000000
section
/-! a rule of our own over the hand layer: for .. in enumerate(a tuple) -/
namespace Dw
open PySem PySem.Spec PyProof.Rows L2
/-- the walker of a tuple, and what counts beside it, as enumerate lays them -/
abbrev tupWalker (tp : Addr) : Obj := { cls := .type "tuple_iterator", data := .fields #[.ref tp, .int 0 0] }
abbrev counter (wk : Addr) : Obj := { cls := .type "enumerate", data := .fields #[.none, .bool false, .ref wk, rawInt 0, .none, .none] }
theorem new_enumT (tp : Addr) (cells : Array Value) (cap : Nat) (dc : Option Addr) (osl : Array (Option Value)) :
    Meets (Builtin.«enumerate.__new__» ⟨[.type "enumerate", .ref tp], []⟩) (fun _ R s => s.heap.get? tp = some { cls := .type "tuple", dict := dc, data := .seq cells cap, slots := osl } ∧
      R (.ok (.ret (.ref (s.heap.push (tupWalker tp)).objs.size))) { s with heap := (s.heap.push (tupWalker tp)).push (counter s.heap.objs.size) }) := by
  refine .of_wp fun prog w A R s pre => ?_
  obtain ⟨hp, glo, dep, tk, os⟩ := s
  obtain ⟨at_, goal⟩ := pre
  have isSub := sub_enumerate
  have isTup : Heap.IsTuple (Shared.heap ⟨hp, glo, dep, tk, os⟩) tp cells := ⟨_, at_, rfl, cap, rfl⟩
  wp_walk using AutoSeq1.wpAny_loadPart' at_
  refine wpAny_stack_any (fun _ => wpAny_pure ?_)
  split
  case h_1 cl _ _ _ _ _ =>
    generalize (cl == Value.type "enumerate") = same
    cases same <;> (wp_walk using AutoSeq1.wpAny_loadPart' at_, wpAny_pyIter_tuple isTup; exact ⟨_, rfl, goal⟩)
  case h_2 =>
    wp_walk using AutoSeq1.wpAny_loadPart' at_, wpAny_pyIter_tuple isTup
    exact ⟨_, rfl, goal⟩
/-- what stands behind enumerate(tuple): two new objects, all else as it was -/
structure Laid (old new : Heap) (tp : Addr) : Prop where
  cnt : IsEnum new (old.objs.size + 1) old.objs.size 0 .none
  wlk : new.IsTupleIter old.objs.size tp 0
  kept : ∀ b o, old.get? b = some o → new.get? b = some o
theorem laid_mk (old : Heap) (tp : Addr) : Laid old ((old.push (tupWalker tp)).push (counter old.objs.size)) tp := by
  have size1 : (old.push (tupWalker tp)).objs.size = old.objs.size + 1 := Heap.size_push ..
  have last := Heap.get?_push_size (old.push (tupWalker tp)) (o := counter old.objs.size) rfl
  rw [size1] at last
  exact ⟨last, ⟨tupWalker tp, Heap.get?_push_of_some _ (Heap.get?_push_size _ rfl), rfl, rfl⟩, fun b o q => Heap.get?_push_of_some _ (Heap.get?_push_of_some _ q)⟩
theorem call_enumT {prog : Program} {w : World} {A : Around} {E Q : Value → Shared → Prop} {s : Shared} {tp : Addr} {cells : Array Value} (isTup : s.heap.IsTuple tp cells)
    (next : ∀ new, Laid s.heap new tp → Q (.ref (s.heap.objs.size + 1)) { s with heap := new }) : wpAny (model prog w) A (call (.type "enumerate") [.ref tp]) Q E s := by
  obtain ⟨⟨cl, dc, dat, osl⟩, at_, isT, cap, isSeq⟩ := isTup
  have e1 : cl = .type "tuple" := isT
  have e2 : dat = .seq cells cap := isSeq
  subst e1
  subst e2
  have made := laid_mk s.heap tp
  have size1 : (s.heap.push (tupWalker tp)).objs.size = s.heap.objs.size + 1 := Heap.size_push ..
  refine callType_new F.called_enumerate (by decide) (F.typeCall_enumerate_1 _) (F.newCall_enumerate_1 _) (fun ob => F.args_object_init_2 ob _) F.entry_enumerate_new (new_enumT tp cells cap dc osl) (And.intro at_ ?_)
  have e3 : Value.ref (s.heap.push (tupWalker tp)).objs.size = .ref (s.heap.objs.size + 1) := by rw [size1]
  show _ ∧ _
  rw [e3]
  exact And.intro ⟨_, made.cnt, rfl⟩ (next _ made)
/-- the tuple at tp: its items, each in a new pair behind its place -/
def IteT (K : PySem.W.Frag) (tp : Addr) : It :=
  ⟨fun i H => ∃ (xs : List V) (x : V), SqT K H tp xs ∧ xs[i]? = some x, fun i H v H' => ∃ pr x, v = .ref pr ∧ H pr = none ∧ H' = upd H pr (.tup [.int (i : Nat), x]) ∧ ∀ xs, SqT K H tp xs → xs[i]? = some x, fun i H => ∃ xs : List V, SqT K H tp xs ∧ xs.length ≤ i⟩
/-- how the two objects stand ahead of turn i -/
def StandsT (tp cn wk : Addr) (i : Nat) (hp : Heap) : Prop := (∃ old, IsEnum hp cn wk ((i : Nat) : Int) old) ∧ hp.IsTupleIter wk tp i ∧ cn ≠ wk ∧ tp ≠ cn ∧ tp ≠ wk
theorem two {b x y : Addr} {P : Addr → Prop} (hb : b ∈ [x, y]) (px : P x) (py : P y) : P b := by
  rcases List.mem_cons.mp hb with same | same
  · exact same ▸ px
  · exact (List.mem_singleton.mp same) ▸ py
theorem turn_enumT {P : Program} {w : World} {K : PySem.W.Frag} {elts : List Expr} {kk : Nat} {tpos : Pos} (tp cn wk : Addr) : Turn P w K (.Tuple elts kk tpos) (IteT K tp) [cn, wk] cn (StandsT tp cn wk) where
  mem := List.mem_cons_self ..
  obj := by
    intro i hp st b hb
    obtain ⟨⟨_, isE⟩, ⟨o, at_, _, dat⟩, _⟩ := st
    exact two (P := fun b => ∃ o, hp.get? b = some o ∧ ∀ v, o.data ≠ .cell v) hb ⟨_, isE, fun _ q => nomatch q⟩ ⟨o, at_, fun v q => by rw [dat] at q; cases q⟩
  keep := by
    intro i hp hp' st same
    obtain ⟨⟨old, isE⟩, isI, far⟩ := st
    exact ⟨⟨old, same cn (List.mem_cons_self ..) _ isE⟩, isI.at fun o q => same wk (List.mem_cons_of_mem _ (List.mem_singleton.mpr rfl)) o q, far⟩
  item := by
    intro X eP ew eK calm i pins s σ H E I free st here
    subst eP ew eK
    obtain ⟨⟨old, isE⟩, isI, ne1, ne2, ne3⟩ := st
    obtain ⟨xs, x, isT, atx⟩ := here
    obtain ⟨cells, rel, isTup, _⟩ := I.tuple isT
    obtain ⟨u, atu, ru⟩ := rel.get atx
    have low : i < cells.toArray.size := by
      rw [List.size_toArray]
      exact (List.getElem?_eq_some_iff.mp atu).1
    have inCn : cn < s.heap.objs.size := Heap.lt_size isE
    have inWk : wk < s.heap.objs.size := let ⟨_, q, _⟩ := isI; Heap.lt_size q
    have far : cn ∉ [wk, tp] := fun z => by
      rcases List.mem_cons.mp z with one | one
      · exact ne1 one
      · exact ne2 (List.mem_singleton.mp one).symm
    have quiet : X.A.in1.handled = none := I.ok.hd calm
    refine wpAny_pyNext_enum_itemD (Draws.tuple (prog := X.prog) (w := X.w) quiet wk tp ne3 cells.toArray) isE ⟨isI, isTup⟩ low ne1 far fun v hp1 tk isv out st1 pair _ same => ?_
    have ev : v = u := by
      have q : cells.toArray[i]? = some v := isv
      rw [List.getElem?_toArray, atu] at q
      cases q
      rfl
    subst ev
    refine ⟨_, rfl, wpAny_letOwnedTupleGo_enum (s := { s with heap := hp1, toks := tk + 1 }) out fun hp2 isE2 but => ?_⟩
    have pair2 : hp2.get? s.heap.objs.size = some { cls := .type "tuple", data := .seq #[.int i tk, v] } := (but.2 _ (Nat.ne_of_gt inCn)).trans pair
    have fine : ObjOk X.prog X.w (upd H s.heap.objs.size (.tup [.int (i : Nat), x])) hp2 s.heap.objs.size (.tup [.int (i : Nat), x]) :=
      And.intro (show 2 ≤ sizeLine by decide) ⟨[.int i tk, v], .cons ⟨_, rfl⟩ (.cons ru .nil), _, pair2, rfl, _, rfl⟩
    have still : ∀ b ob, b ∉ [cn, wk] → s.heap.get? b = some ob → hp2.get? b = some ob := fun b ob nb q => by
      have n1 : b ≠ cn := fun z => nb (z ▸ List.mem_cons_self ..)
      have n2 : b ≠ wk := fun z => nb (z ▸ List.mem_cons_of_mem _ (List.mem_singleton.mpr rfl))
      rw [but.2 b n1]
      exact same b ob n1 n2 q
    have J := I.turnedNew (ch := [cn, wk]) (t' := tk + 1) still free (Nat.le_refl s.heap.objs.size) fine
    have up : (i : Int) + 1 = ((i + 1 : Nat) : Int) := (Int.natCast_succ i).symm
    rw [up] at isE2
    refine ⟨.ref s.heap.objs.size, _, J, rfl, ⟨_, x, rfl, I.hok.fresh (Nat.le_refl _), rfl, fun ys isY => ?_⟩, ⟨⟨v, isE2⟩, st1.1.at fun o q => (but.2 wk ne1.symm).trans q, ne1, ne2, ne3⟩, fun b hb => ?_⟩
    · rw [I.tuple_inj isY isT]
      exact atx
    · have inB : b < s.heap.objs.size := two (P := fun b => b < s.heap.objs.size) hb inCn inWk
      rw [upd_ne (Nat.ne_of_lt inB)]
      exact (free b hb).1
  done := by
    intro X eP ew eK calm i pins s σ H E I free st over
    subst eP ew eK
    obtain ⟨⟨old, isE⟩, isI, ne1, ne2, ne3⟩ := st
    obtain ⟨xs, isT, short⟩ := over
    obtain ⟨cells, rel, isTup, _⟩ := I.tuple isT
    obtain ⟨g0, g1, g2, g3, g4, g5⟩ := free wk (List.mem_cons_of_mem _ (List.mem_singleton.mpr rfl))
    have many : cells.toArray.size ≤ i := by
      rw [List.size_toArray, ← rel.length]
      exact short
    have quiet : X.A.in1.handled = none := I.ok.hd calm
    have D : Draws X.prog X.w X.A.in1 wk [wk, tp] i (fun _ _ => False) (fun j hp => j = i ∧ hp.IsTupleIter wk tp i ∧ hp.IsTuple tp cells.toArray) :=
      { live := fun _ _ q => let ⟨o, z, _⟩ := q.2.1; ⟨o, z⟩
        frame := fun _ _ _ q same => ⟨q.1, q.2.1.at fun o z => same wk (List.mem_cons_self ..) o z, q.2.2.at fun o z => same tp (List.mem_cons_of_mem _ (List.mem_singleton.mpr rfl)) o z⟩
        item := fun _ _ _ _ less q _ => absurd q.1 (Nat.ne_of_lt less)
        done := fun _ _ _ q ends => wpAny_nextOf_tuple_end quiet q.2.1 q.2.2 (Array.getElem?_eq_none many) ends }
    exact wpAny_pyNext_enum_endD D isE ⟨rfl, isI, isTup⟩ fun hp1 ext => ⟨rfl, I.turned (t' := s.toks) (fun b o nb q => ext b o nb q) g0 g1 g3 g4 g5⟩
  self := by
    intro A i s Q E st q
    obtain ⟨⟨_, isE⟩, _⟩ := st
    exact wpAny_pyIter_enum isE q
def iEnumT (K : PySem.W.Frag) (ta : TA) : TI := fun σ H R => ta σ H fun vs H1 => ∃ tp xs, vs = [.ref tp] ∧ SqT K H1 tp xs ∧ R (IteT K tp) H1
theorem pi_enumT {X : Cx} {e : Expr} {ta : TA} {p pos tpos : Pos} {elts : List Expr} {kk : Nat} (glob : Gl X "enumerate") (none_ : X.mg "enumerate" = none) (arg : PA X [e] ta) (star : starEach [e] X.env = [(false, eval e X.env)] := by rfl) :
    PI X (.Tuple elts kk tpos) (.Call (.Name "enumerate" p) [e] [] pos) (iEnumT X.K ta) := by
  constructor
  intro pins s σ H R I q0
  have given := arg.run pos pins s σ H _ I q0
  refine Call_ (ld_blt I glob none_ boot_enumerate (callWith_type1 (thn given fun us s1 got => ?_) star rfl))
  obtain ⟨vs, H1, J, rel, tp, xs, isOne, isT, q1⟩ := got
  subst isOne
  obtain ⟨u, isU, ru⟩ := vals1 rel
  subst isU
  cases (show u = Value.ref tp from ru)
  obtain ⟨cells, _, isTup, _⟩ := J.tuple isT
  have inTp : tp < s1.heap.objs.size := let ⟨_, at_, _⟩ := (show s1.heap.IsTuple tp cells.toArray from isTup); Heap.lt_size at_
  refine call_enumT isTup fun new made => wpAny_pyIter_enum made.cnt ?_
  have J2 : Inv X pins σ H1 { s1 with heap := new } := J.kept (t' := s1.toks) made.kept
  have stands : StandsT tp (s1.heap.objs.size + 1) s1.heap.objs.size 0 new := ⟨⟨.none, made.cnt⟩, made.wlk, Nat.succ_ne_self _, Nat.ne_of_lt (Nat.lt_succ_of_lt inTp), Nat.ne_of_lt inTp⟩
  refine ⟨s1.heap.objs.size + 1, [s1.heap.objs.size + 1, s1.heap.objs.size], _, _, H1, rfl, J2, turn_enumT tp _ _, stands, fun b hb => ?_, q1⟩
  have late : s1.heap.objs.size ≤ b := two (P := fun b => s1.heap.objs.size ≤ b) hb (Nat.le_succ _) (Nat.le_refl _)
  exact J.fpOk late (J.hok.fresh late)
end Dw
end
section
namespace Dw
open PySem PySem.Spec PyProof.Rows L2
/-! ### repr of data, where nothing is being shown around -/
/-! ### ** of a base that op_pow does not take -/
theorem op_powG {b e : Int} (h0 : 0 < e) (h1 : 1 < b) (hz : Builtin.Int.intTooBig (((Builtin.Int.intBits b : Nat) : Int) * e) = false) {X : Cx} :
    OpR X (binaryOp .Pow) (fun x y H Q => x = .int b ∧ y = .int e ∧ Q (.int (b ^ e.toNat)) H) := by
  intro pins s σ H x y v u Q I rx ry h
  obtain ⟨rfl, rfl, q⟩ := h
  obtain ⟨t1, rfl⟩ := (show ∃ t, v = Value.int b t from rx)
  obtain ⟨t2, rfl⟩ := (show ∃ t, u = Value.int e t from ry)
  refine AutoIntOps.pow_4 (by omega) (by simp; omega) (by simp; omega) (by simp; omega) (by rw [hz]; decide) ?_
  exact ⟨.int (b ^ e.toNat), H, I.tok _, ⟨_, rfl⟩, q⟩
end Dw
end
section
/-! the law's own def, entered from the caller's place itself (so that it is known there that nothing is being shown) -/
namespace Dw
open PySem PySem.Spec PyProof.Rows L2
/-- a def of one parameter, entered at a told place A -/
theorem enter1 {P : Program} {w : World} {K : PySem.W.Frag} {mg : Str → Option Value} {base : Heap} {k : Nat} {x qual : Str} {st : Stmt} {f : Addr} {fd : FuncData} {N : List Str} {A : Around} {outer : List Env} {s : Shared} {H : Hp} {v : V} {u : Value} {Q : VK}
    (F : Fun K qual qual st f fd) (S : FnScope N [x] (defScope st)) (bd : BindsTo s fd ⟨[u], []⟩ [(x, u)]) (room : Room (k + 1) A) (e0 : Env0 P w K mg base A outer s H) (rv : RelV v u)
    (body : ∀ cdv : Value, ∃ t, PSs (cxOf CX0 P w K mg base N qual (defScope st) f cdv A outer s H E0).nox (defBody st) t ∧ t { nx := fun _ H' => Q .non H', rt := Q } (start N [v]) H) :
    codeAny (model P w) A (.call (.ref f) ⟨[u], []⟩) (CR CX0 outer P w H s Q E0) s := by
  obtain ⟨oc, od, kV, doc, pm, an, cdv, ct, osl, efd, look, code⟩ := F.ex
  subst efd
  obtain ⟨t, der, rd⟩ := body cdv
  have kept : ∀ b o, base.get? b = some o → s.heap.get? b = some o := fun b o e => (e0.bs b o e).1
  have inK : K.In s.heap := e0.mod.kin.keeps kept
  refine codeAny_call_function room.depth (inK f _ look) rfl S.co S.gen rfl (PySem.W.codeRec_of inK code) (bd _ _ _ _ ?_)
  have kinds : ∀ y ∈ [(x, u)], (defScope st).names.lookup y.1 = some .local ∨ ((defScope st).names.lookup y.1 = some .cell ∧ ((cellsFrom (s.heap.objs.size + 1) (defScope st).names []).lookup y.1).isSome = true) := by
    intro y hy
    rw [List.mem_singleton.mp hy]
    cases S.par x (List.mem_singleton.mpr rfl) with
    | inl one => exact Or.inl one
    | inr one => exact Or.inr ⟨one, PySem.W.cellsFrom_some _ _ _ (Or.inl one)⟩
  refine wpAny_newFunctionEnv_cells S.kind kinds (fun env isEnv s1 ic => ?_)
  subst isEnv
  have noLim : s.heap.NoLimit := e0.mod.nolimit.keeps kept
  refine ⟨noLim.keeps ic.toInCall.keep, codeAny_func ?_⟩
  have start0 : Inv (cxOf CX0 P w K mg base N qual (defScope st) f cdv A outer s H E0) [] (start N [v]) H s1 := inv_start S room.hd e0 rfl (.cons rv .nil) ic
  refine wpAny_mono (der.nox.run [] s1 (start N [v]) H _ start0 rd) (fun flow s2 done => ?_) (fun _ _ bad => bad)
  match flow, done with
  | .next, ⟨_, H2, inv, q⟩ => exact ⟨.non, H2, inv.os, inv.bare, inv.base, inv.hok, rfl, q⟩
  | .ret _, ⟨v2, _, H2, inv, rel, q⟩ => exact ⟨v2, H2, inv.os, inv.bare, inv.base, inv.hok, rel, q⟩
  | .brk, ⟨_, _, _, q⟩ => exact q.elim
  | .cont, ⟨_, _, _, q⟩ => exact q.elim
/-- how the script stands ahead of the law: tracked as locked, or one of the written part's own -/
def scriptHp (K : PySem.W.Frag) (a : Addr) (ob : Obj) (ns : List Int) : Hp := fun b => if b = a ∧ K.lookup a = none then some (.frz ob (.lst (ns.map V.int))) else none
section
variable {K : PySem.W.Frag} {a : Addr} {ob : Obj} {ns : List Int}
theorem scriptHp_some {b : Addr} {u : HO} (h : scriptHp K a ob ns b = some u) : b = a ∧ K.lookup a = none ∧ u = .frz ob (.lst (ns.map V.int)) := by
  unfold scriptHp at h
  split at h
  · rename_i c
    exact ⟨c.1, c.2, (Option.some.inj h).symm⟩
  · cases h
theorem scriptHp_at (h : K.lookup a = none) : scriptHp K a ob ns a = some (.frz ob (.lst (ns.map V.int))) := if_pos ⟨rfl, h⟩
theorem scriptHp_no {b : Addr} (h : b ≠ a) : scriptHp K a ob ns b = none := if_neg fun c => h c.1
end
/-- the end of a law row whose def is walked from the caller's place -/
theorem walkG {l : PySem.W.OpenLaw} {n k : Nat} {q : Program} {loose : List Str} {XP : (Str → Option Value) → Heap → Prop} {YP : World → Heap → Prop} {d : DefRec} {K : Params → PySem.W.Frag} {x : Str}
    (hn : l.most = some n) (hn2 : n ≤ sizeLine) (hdf : d.params.defaults = []) (room : Room (k + 1) callerA) (hY : ∀ (w : World) (h : Heap), YP w h → (K w.params).In h)
    (F : ∀ (w : World) (mg : Str → Option Value) (fa : Addr) (h : Heap),
      (K w.params).In h → h.Ns mainGlobals mg → mg d.name = some (.ref fa) →
      ∃ (fd : FuncData) (st : Stmt) (N : List Str), Fun (K w.params) d.name d.name st fa fd ∧ FnScope N [x] (defScope st) ∧ (∀ (s : Shared) (u : Value), BindsTo s fd ⟨[u], []⟩ [(x, u)]) ∧
        ∀ (base : Heap) (s : Shared) (H : Hp) (cdv : Value) (a : Addr) (ns : List Int), (K w.params).In base → base.Ns mainGlobals mg → ns.length ≤ n → SqL (K w.params) H a (ns.map V.int) →
          ∃ t, PSs (cxOf CX0 l.prog w (K w.params) mg base N d.name (defScope st) fa cdv callerA [] s H E0).nox (defBody st) t ∧ t { nx := fun _ _ => False, rt := fun v _ => v = .bl true } (start N [.ref a]) H) :
    PySem.W.WalkO q loose XP YP l.row.toRowW d [] (fun g us => PySem.call g us) := by
  refine Att.attach_call hn hdf (fun w _ s mg mb fa _ _ _ _ a vs ns G Y _ _ _ gl isL nums len gens => ?_)
  have inK := hY w s.heap Y
  obtain ⟨fd, st, N, Fn, S, bd, body⟩ := F w mg fa s.heap inK G.T.g gl
  let H : Hp := scriptHp (K w.params) a { cls := .type "list", data := .seq vs.toArray } ns
  have rel : Vals (ns.map V.int) vs := vals_ints nums
  have small : vs.length ≤ sizeLine := by rw [nums.length]; exact Nat.le_trans len hn2
  have okH : HOk l.prog w H s.heap := by
    intro b u e
    obtain ⟨rfl, _, rfl⟩ := scriptHp_some e
    exact ⟨isL, by rw [List.length_map]; exact Nat.le_trans len hn2, vs, _, rel, isL⟩
  have seq : SqL (K w.params) H a (ns.map V.int) := by
    cases lk : (K w.params).lookup a with
    | none => exact Or.inl (Or.inr ⟨_, scriptHp_at lk⟩)
    | some o =>
      have same : o = { cls := .type "list", data := .seq vs.toArray } := Option.some.inj ((inK a o lk).symm.trans isL)
      exact Or.inr ⟨o, vs.toArray, _, lk, by rw [same], by rw [same], by rw [same], by rw [List.size_toArray]; exact small, by simpa using rel⟩
  have freeK : ∀ b o, (K w.params).lookup b = some o → H b = none := by
    intro b o e
    by_cases hb : b = a
    · subst hb
      exact if_neg fun c => by rw [c.2] at e; cases e
    · exact scriptHp_no hb
  have freeD : ∀ b o es ep, s.heap.get? b = some o → o.data = .dict es ep → H b = none := by
    intro b o es ep e dat
    by_cases hb : b = a
    · subst hb
      rw [isL] at e
      cases e
      cases dat
    · exact scriptHp_no hb
  have names : ∀ b m, s.heap.Ns b m → (hidT s.heap H).Ns b m := fun b m ⟨o, es, ep, e, dat, r⟩ => ⟨o, es, ep, hidT_get e (freeD b o es ep e dat), dat, r⟩
  have inB : (K w.params).In (hidT s.heap H) := fun b o e => hidT_get (inK b o e) (freeK b o e)
  have noL : (hidT s.heap H).NoLimit := by
    obtain ⟨mc, c1, c2⟩ := G.T.nolimit
    exact ⟨mc, names _ _ c1, c2⟩
  have e0 : Env0 l.prog w (K w.params) mg (hidT s.heap H) callerA [] s H :=
    { frames := rfl, mod := ⟨inB, names _ _ G.T.g, ⟨mb, names _ _ G.T.b, G.T.builtins⟩, noL⟩, bs := fun b o e => of_hidT e, bsz := Nat.le_of_eq (hidT_size _ _), funs := trivial, frf := fun b hb => absurd (show b ∈ ([] : List Addr) from hb) (by simp), hok := okH, bare := .of_eq gens }
  have run := enter1 (P := l.prog) (v := .ref a) (Q := fun v _ => v = .bl true) Fn S (bd s (.ref a)) room e0 rfl (fun cdv => by
    obtain ⟨t, t1, t2⟩ := body (hidT s.heap H) s H cdv a ns inB (names _ _ G.T.g) len seq
    refine ⟨t, t1, ?_⟩
    have no : (fun (_ : L2.St) (_ : Hp) => (V.non = V.bl true)) = fun _ _ => False := by
      funext _ _
      exact propext ⟨fun z => V.noConfusion z, False.elim⟩
    show t { nx := fun (_ : L2.St) (_ : Hp) => V.non = V.bl true, rt := fun v _ => v = .bl true } (start N [.ref a]) H
    rw [no]
    exact t2)
  refine codeAny_mono run (fun r s2 done => ?_)
  match r, done with
  | .error _, bad => exact bad.elim
  | .ok .next, bad => exact bad.elim
  | .ok .brk, bad => exact bad.elim
  | .ok .cont, bad => exact bad.elim
  | .ok (.ret _), ⟨_, H2, os, bare, un, ok2, rr, isT⟩ =>
    subst isT
    cases (show _ = Value.bool true from rr)
    refine ⟨rfl, OldK.of_keep (fun b o e => ?_), os, bare⟩
    cases tr : H b with
    | none => exact un.keep b o e tr (fun z => absurd (show b ∈ ([] : List Addr) from z) (by simp)) (by simp)
    | some u =>
      obtain ⟨hb, _, hu⟩ := scriptHp_some tr
      subst hb hu
      have still := un.frzs _ _ _ tr
      rw [isL] at e
      cases e
      exact (ok2 _ _ still).1
end Dw
end
section
/-! what a reading evaluates to: more words over Evl; tuples of natural numbers; defs by their names -/
namespace Dw
open PySem PySem.Spec PyProof.Rows L2 Evl
/-! ### defs by their names -/
/-- a def of the text behind the top, all of its parameters without defaults -/
structure Df (K : PySem.W.Frag) (mg : Str → Option Value) (x : Str) (st : Stmt) (ps : List Str) : Prop where
  ex : ∃ (f : Addr) (fd : FuncData), Fun K x x st f fd ∧ mg x = some (.ref f) ∧ Binds K fd ps []
/-- a def that keeps a promise -/
structure Cl (P : Program) (w : World) (K : PySem.W.Frag) (mg : Str → Option Value) (base : Heap) (k : Nat) (x : Str) (sp : Sp) : Prop where
  ex : ∃ (f : Addr) (fd : FuncData) (ps : List Str), FnOk P w K mg base CX0 k f fd ps sp ∧ mg x = some (.ref f) ∧ PySem.W.keepIn K (.ref f) = true ∧ Binds K fd ps []
theorem cl_of {P : Program} {w : World} {K : PySem.W.Frag} {mg : Str → Option Value} {base : Heap} {x : Str} {st : Stmt} {N ps : List Str} {k : Nat} {sp : Sp} (D : Df K mg x st ps) (S : FnScope N ps (defScope st)) (len : ∀ vs H Q E, sp vs H Q E → vs.length = ps.length)
    (body : ∀ (f : Addr) (cdv : Value) (A : Around) (outer : List Env) (s : Shared) (H : Hp) (vs : List V) (Q : VK) (E : XK), Room k (A.deeper (envOfC x (defScope st) s.heap.objs.size f cdv)) → sp vs H Q E →
      ∃ t, PSs (cxOf CX0 P w K mg base N x (defScope st) f cdv A outer s H E).nox (defBody st) t ∧ t { nx := fun _ H' => Q .non H', rt := Q } (start N vs) H) : Cl P w K mg base (k + 1) x sp := by
  obtain ⟨f, fd, F, m, b⟩ := D.ex
  exact ⟨f, fd, ps, F.ok S len (fun cdv A outer s H vs Q E hr h => body f cdv A outer s H vs Q E hr h), m, F.kp, b⟩
theorem pe_cl {X : Cx} {k j : Nat} {x : Str} {sp : Sp} {p pos : Pos} {e : Expr} {es : List Expr} {t : TA} (c : Cl X.prog X.w X.K X.mg X.base k x sp) (hr : Room j X.A) (hk : k ≤ j) (hg : Gl X x) (ha : PA X (e :: es) t)
    (dbg : (x == ("__debug__" : Str)) = false := by decide) (str : starEach (e :: es) X.env = (false, eval e X.env) :: starEach es X.env := by rfl) (bck : (backTo pos (starEach es X.env)).any (·.1) = false := by rfl) :
    PE X (.Call (.Name x p) (e :: es) [] pos) (tCall sp [] E0 t) := by
  obtain ⟨f, fd, ps, F, m, kp, b⟩ := c.ex
  exact pe_call F (hr.mono hk) hg m kp b .nil pass0 ha dbg str bck
/-- a pure promise: of some a what must hold, and what comes back, all that stood left as it was -/
def spX {α : Type} (pre : α → List V → Hp → Prop) (post : α → V → Hp → Prop) : Sp := fun vs H Q _ => ∃ a, pre a vs H ∧ ∀ v H', Ex H H' → post a v H' → Q v H'
/-! ### values of any kind, by what holds of them -/
def EvP (te : TE) (σ : L2.St) (H : Hp) (P : V → Hp → Prop) : Prop := ∀ H1, Ex H H1 → ∀ Q : VK, (∀ v H2, Ex H1 H2 → P v H2 → Q v H2) → te σ H1 Q
section
variable {K : PySem.W.Frag} {σ : L2.St} {H H' : Hp} {ta tb te : TE} {x y z v : V} {P : V → Hp → Prop}
theorem EvP.mono (e : Ex H H') (h : EvP te σ H P) : EvP te σ H' P := fun H1 a Q q => h H1 (e.trans a) Q q
theorem EvP.imp {P' : V → Hp → Prop} (h : EvP te σ H P) (i : ∀ v H', Ex H H' → P v H' → P' v H') : EvP te σ H P' := fun H1 e Q q => h H1 e Q fun v H2 e2 p => q v H2 e2 (i v H2 (e.trans e2) p)
theorem ep_ev (h : Ev te σ H v) (p : ∀ H', Ex H H' → P v H') : EvP te σ H P := fun H1 e Q q => h H1 e Q fun H2 e2 => q v H2 e2 (p H2 (e.trans e2))
theorem ev_ep (h : EvP te σ H fun u _ => u = v) : Ev te σ H v := fun H1 e Q q => h H1 e Q fun u H2 e2 p => by subst p; exact q H2 e2
/-- a call by a pure promise -/
theorem ep_call {α : Type} {pre : α → List V → Hp → Prop} {post : α → V → Hp → Prop} (a : α) {vs : List V} {E : XK} {ta : TA} (h : EvA ta σ H vs) (hp : ∀ H1, Ex H H1 → pre a vs H1) : EvP (tCall (spX pre post) [] E ta) σ H (post a) := fun H1 e Q q =>
  h H1 e _ fun H2 e2 => by
    rw [List.append_nil]
    exact ⟨a, hp H2 (e.trans e2), fun v H3 e3 p => q v H3 (e2.trans e3) p⟩
theorem ev_callV {α : Type} {pre : α → List V → Hp → Prop} {post : α → V → Hp → Prop} (a : α) {vs : List V} {E : XK} {ta : TA} (h : EvA ta σ H vs) (hp : ∀ H1, Ex H H1 → pre a vs H1) (hv : ∀ u H', post a u H' → u = v) : Ev (tCall (spX pre post) [] E ta) σ H v :=
  ev_ep ((ep_call a h hp).imp fun u H' _ p => hv u H' p)
/-! isinstance -/
theorem ev_isi {c : V} {t u : Value} {b : Bool} (ha : Ev ta σ H x) (hc : Ev tb σ H c) (k : ClsV c u) (ty : ∀ H1, Ex H H1 → TyX K H1 x t) (e : PySem.W.kitOne K t u = some b) : Ev (tCB (rIsi K) (tCons ta (tCons tb tNil))) σ H (.bl b) := fun H1 e1 Q q =>
  ha H1 e1 _ fun H2 e2 => hc H2 (e1.trans e2) _ fun H3 e3 => ⟨x, c, t, u, b, rfl, k, ty H3 ((e1.trans e2).trans e3), e, q H3 (e2.trans e3)⟩
theorem tyx_int (i : Int) : TyX K H (.int i) (.type "int") := .base (.int i)
theorem tyx_str (s : Str) : TyX K H (.str s) (.type "str") := .base (.str s)
theorem tyx_bl (b : Bool) : TyX K H (.bl b) (.type "bool") := .base (.bl b)
theorem tyx_non : TyX K H .non (.type "NoneType") := .base .non
theorem tyx_tup {a : Addr} {xs : List V} (h : SqT K H a xs) : TyX K H (.ref a) (.type "tuple") := by
  rcases h with (h | ⟨o, h⟩) | ⟨o, its, n, lk, c, _⟩
  · exact .base (.tup h)
  · exact .fTuple h
  · exact .kTuple lk c
theorem kit_tt : PySem.W.kitOne K (.type "tuple") (.type "tuple") = some true := kit_ty (by decide +kernel)
theorem kit_ii : PySem.W.kitOne K (.type "int") (.type "int") = some true := kit_ty (by decide +kernel)
theorem kit_ib : PySem.W.kitOne K (.type "int") (.type "bool") = some false := kit_ty (by decide +kernel)
theorem kit_ss : PySem.W.kitOne K (.type "str") (.type "str") = some true := kit_ty (by decide +kernel)
/-! len -/
theorem ev_lenT {p : Addr} {xs : List V} (ha : Ev ta σ H (.ref p)) (h : SqT K H p xs) : Ev (tCB (rLenS K) (tCons ta tNil)) σ H (.int (xs.length : Int)) := fun H1 e Q q =>
  ha H1 e _ fun H2 e2 => ⟨p, xs, rfl, Or.inr (ex_t (e.trans e2) h), q H2 e2⟩
def rLenTx : List V → Hp → VK → Prop := fun xs H Q => ∃ z, xs = [.str z] ∧ z.length ≤ sizeLine ∧ Q (.int z.length) H
theorem ev_lenS {z : Str} (ha : Ev ta σ H (.str z)) (h : z.length ≤ 100000) : Ev (tCB rLenTx (tCons ta tNil)) σ H (.int (z.length : Int)) := fun H1 e Q q =>
  ha H1 e _ fun H2 e2 => ⟨z, rfl, sz_of h, q H2 e2⟩
/-- a < b < c and the like -/
theorem ev_chain {r r' : R2} {tc : TE} {x y z : V} {a b : Bool} (ha : Ev ta σ H x) (hb : Ev tb σ H y) (hc : a = true → Ev tc σ H z) (h1 : RV r x y H (.bl a)) (h2 : a = true → RV r' y z H (.bl b)) : Ev (tChain r r' ta tb tc) σ H (.bl (a && b)) := fun H1 e Q q =>
  ha H1 e _ fun H2 e2 => hb H2 (e.trans e2) _ fun H3 e3 => h1 H3 ((e.trans e2).trans e3) _ fun H4 e4 => ⟨a, rfl, by
    have e14 := (e2.trans e3).trans e4
    cases a with
    | true =>
      show tc σ H4 _
      refine hc rfl H4 (e.trans e14) _ fun H5 e5 => ?_
      exact h2 rfl H5 ((e.trans e14).trans e5) Q fun H6 e6 => q H6 ((e14.trans e5).trans e6)
    | false =>
      show Q (.bl false) H4
      exact q H4 e14⟩
theorem et_val {b : Bool} (h : Ev te σ H (.bl b)) : EvT (tB te) σ H b := et_B h
/-- truth of a def's truth value -/
theorem et_truB {b : Bool} (h : Ev te σ H (.bl b)) : EvT (fun σ H Q => te σ H fun x H' => ∃ k, TruV K x H' k ∧ Q k H') σ H b := fun H1 e Q q =>
  h H1 e _ fun H2 e2 => ⟨b, rfl, q H2 e2⟩
theorem et_isN {x : V} (h : Ev ta σ H x) : EvT (tTest (tOp (fun x y H Q => y = .non ∧ Q (.bl (!decide (x = .non))) H) ta (tC .non))) σ H (!decide (x = .non)) := fun H1 e Q q =>
  h H1 e _ fun H2 e2 => ⟨rfl, _, rfl, q H2 e2⟩
end
/-! ### tuples of natural numbers -/
abbrev vi (k : Nat) : V := .int (k : Int)
theorem atI_vi {xs : List V} {k : Nat} {v : V} (h : xs[k]? = some v) : atI xs (k : Int) = some v := atI_nat h
/-- all tuples that stood stand (lists may have changed) -/
def ET (K : PySem.W.Frag) (H H' : Hp) : Prop := ∀ a xs, SqT K H a xs → SqT K H' a xs
theorem ET.refl {K : PySem.W.Frag} {H : Hp} : ET K H H := fun _ _ h => h
theorem ET.trans {K : PySem.W.Frag} {H H1 H2 : Hp} (a : ET K H H1) (b : ET K H1 H2) : ET K H H2 := fun p xs h => b p xs (a p xs h)
theorem Ex.et {K : PySem.W.Frag} {H H' : Hp} (e : Evl.Ex H H') : ET K H H' := fun _ _ h => ex_t e h
theorem ET.upd {K : PySem.W.Frag} {H H' : Hp} {l : Addr} {xs ys : List V} (e : ET K H H') (h : H' l = some (.lst xs)) : ET K H (upd H' l (.lst ys)) := fun a zs q => by
  rcases e a zs q with (q | ⟨o, q⟩) | q
  · have ne : a ≠ l := fun z => by rw [z, h] at q; cases q
    exact .inl (.inl (by rw [upd_ne ne]; exact q))
  · have ne : a ≠ l := fun z => by rw [z, h] at q; cases q
    exact .inl (.inr ⟨o, by rw [upd_ne ne]; exact q⟩)
  · exact .inr q
def Nats (K : PySem.W.Frag) (H : Hp) (v : V) (ns : List Nat) : Prop := ∃ a, v = .ref a ∧ SqT K H a (ns.map vi)
theorem Nats.et {K : PySem.W.Frag} {H H' : Hp} {v : V} {ns : List Nat} (e : ET K H H') (h : Nats K H v ns) : Nats K H' v ns := let ⟨a, q, s⟩ := h; ⟨a, q, e _ _ s⟩
theorem Nats.ex {K : PySem.W.Frag} {H H' : Hp} {v : V} {ns : List Nat} (e : Evl.Ex H H') (h : Nats K H v ns) : Nats K H' v ns := h.et (Dw.Ex.et e)
theorem paired_imp {α β : Type} {R S : α → β → Prop} (h : ∀ a b, R a b → S a b) : ∀ {xs : List α} {ys : List β}, Paired R xs ys → Paired S xs ys
  | _, _, .nil => .nil
  | _, _, .cons a b => .cons (h _ _ a) (paired_imp h b)
theorem paired_get {α β : Type} {R : α → β → Prop} : ∀ {xs : List α} {ys : List β} {i : Nat} {y : β}, Paired R xs ys → ys[i]? = some y → ∃ x, xs[i]? = some x ∧ R x y
  | _, _, _, _, .nil, h => by simp at h
  | _, _, 0, _, .cons a _, h => by
    have e := Option.some.inj h
    subst e
    exact ⟨_, rfl, a⟩
  | _, _, i + 1, y, .cons _ b, h => by
    obtain ⟨x, e, r⟩ := paired_get (i := i) b h
    exact ⟨x, e, r⟩
theorem paired_len {α β : Type} {R : α → β → Prop} : ∀ {xs : List α} {ys : List β}, Paired R xs ys → xs.length = ys.length
  | _, _, .nil => rfl
  | _, _, .cons _ b => congrArg (· + 1) (paired_len b)
theorem paired_snoc {α β : Type} {R : α → β → Prop} {x : α} {y : β} (r : R x y) : ∀ {xs : List α} {ys : List β}, Paired R xs ys → Paired R (xs ++ [x]) (ys ++ [y])
  | _, _, .nil => .cons r .nil
  | _, _, .cons a b => .cons a (paired_snoc r b)
/-- a tuple of tuples of natural numbers -/
def Tabs (K : PySem.W.Frag) (H : Hp) (v : V) (ts : List (List Nat)) : Prop := ∃ a vs, v = .ref a ∧ SqT K H a vs ∧ Paired (Nats K H) vs ts
theorem Tabs.et {K : PySem.W.Frag} {H H' : Hp} {v : V} {ts : List (List Nat)} (e : ET K H H') (h : Tabs K H v ts) : Tabs K H' v ts := let ⟨a, vs, q, s, p⟩ := h; ⟨a, vs, q, e _ _ s, paired_imp (fun _ _ n => n.et e) p⟩
theorem Tabs.ex {K : PySem.W.Frag} {H H' : Hp} {v : V} {ts : List (List Nat)} (e : Evl.Ex H H') (h : Tabs K H v ts) : Tabs K H' v ts := h.et (Dw.Ex.et e)
/-- a deed; a signature -/
def Deed (K : PySem.W.Frag) (H : Hp) (v : V) (p : Str × Nat) : Prop := ∃ b, v = .ref b ∧ SqT K H b [.str p.1, vi p.2]
theorem Deed.et {K : PySem.W.Frag} {H H' : Hp} {v : V} {p : Str × Nat} (e : ET K H H') (h : Deed K H v p) : Deed K H' v p := let ⟨b, q, s⟩ := h; ⟨b, q, e _ _ s⟩
def Sig (K : PySem.W.Frag) (H : Hp) (v : V) (sg : List (Str × Nat)) : Prop := ∃ a vs, v = .ref a ∧ SqT K H a vs ∧ Paired (Deed K H) vs sg
theorem Sig.et {K : PySem.W.Frag} {H H' : Hp} {v : V} {sg : List (Str × Nat)} (e : ET K H H') (h : Sig K H v sg) : Sig K H' v sg := let ⟨a, vs, q, s, p⟩ := h; ⟨a, vs, q, e _ _ s, paired_imp (fun _ _ n => n.et e) p⟩
theorem Sig.ex {K : PySem.W.Frag} {H H' : Hp} {v : V} {sg : List (Str × Nat)} (e : Evl.Ex H H') (h : Sig K H v sg) : Sig K H' v sg := h.et (Dw.Ex.et e)
/-- a model: its size and its tables -/
def Mdl (K : PySem.W.Frag) (H : Hp) (v : V) (n : Nat) (ts : List (List Nat)) : Prop := ∃ a u, v = .ref a ∧ SqT K H a [vi n, u] ∧ Tabs K H u ts
theorem Mdl.et {K : PySem.W.Frag} {H H' : Hp} {v : V} {n : Nat} {ts : List (List Nat)} (e : ET K H H') (h : Mdl K H v n ts) : Mdl K H' v n ts := let ⟨a, u, q, s, p⟩ := h; ⟨a, u, q, e _ _ s, p.et e⟩
theorem Mdl.ex {K : PySem.W.Frag} {H H' : Hp} {v : V} {n : Nat} {ts : List (List Nat)} (e : Evl.Ex H H') (h : Mdl K H v n ts) : Mdl K H' v n ts := h.et (Dw.Ex.et e)
end Dw
end
section
/-! a def that the module holds under another name too -/
namespace Dw
open PySem PySem.Spec PyProof.Rows L2 Evl
structure DfQ (K : PySem.W.Frag) (mg : Str → Option Value) (x y : Str) (st : Stmt) (ps : List Str) : Prop where
  ex : ∃ (f : Addr) (fd : FuncData), Fun K y y st f fd ∧ mg x = some (.ref f) ∧ Binds K fd ps []
theorem cl_ofQ {P : Program} {w : World} {K : PySem.W.Frag} {mg : Str → Option Value} {base : Heap} {x y : Str} {st : Stmt} {N ps : List Str} {k : Nat} {sp : Sp} (D : DfQ K mg x y st ps) (S : FnScope N ps (defScope st)) (len : ∀ vs H Q E, sp vs H Q E → vs.length = ps.length)
    (body : ∀ (f : Addr) (cdv : Value) (A : Around) (outer : List Env) (s : Shared) (H : Hp) (vs : List V) (Q : VK) (E : XK), Room k (A.deeper (envOfC y (defScope st) s.heap.objs.size f cdv)) → sp vs H Q E →
      ∃ t, PSs (cxOf CX0 P w K mg base N y (defScope st) f cdv A outer s H E).nox (defBody st) t ∧ t { nx := fun _ H' => Q .non H', rt := Q } (start N vs) H) : Cl P w K mg base (k + 1) x sp := by
  obtain ⟨f, fd, F, m, b⟩ := D.ex
  exact ⟨f, fd, ps, F.ok S len (fun cdv A outer s H vs Q E hr h => body f cdv A outer s H vs Q E hr h), m, F.kp, b⟩
end Dw
end
section
/-! the mathematics of renaming, over plain lists of natural numbers -/
namespace M20
/-- the k-th, 0 where there is none -/
abbrev g (l : List Nat) (k : Nat) : Nat := l.getD k 0
theorem g_eq {l : List Nat} {k : Nat} (h : k < l.length) : l[k]? = some (g l k) := by
  show l[k]? = some (l.getD k 0)
  rw [List.getD_eq_getElem?_getD, List.getElem?_eq_getElem h]
  rfl
theorem ext {l m : List Nat} (h : l.length = m.length) (e : ∀ k, k < l.length → g l k = g m k) : l = m := by
  apply List.ext_getElem? 
  intro k
  by_cases hk : k < l.length
  · rw [g_eq hk, g_eq (h ▸ hk), e k hk]
  · rw [List.getElem?_eq_none_iff.mpr (by omega), List.getElem?_eq_none_iff.mpr (by omega)]
theorem g_map {f : Nat → Nat} {n k : Nat} (h : k < n) : g ((List.range n).map f) k = f k := by
  show ((List.range n).map f).getD k 0 = f k
  rw [List.getD_eq_getElem?_getD, List.getElem?_map, List.getElem?_range h]
  rfl
/-- an order of the size n -/
structure Ord (n : Nat) (o : List Nat) : Prop where
  len : o.length = n
  low : ∀ k, k < n → g o k < n
  inj : ∀ j k, j < n → k < n → g o j = g o k → j = k
/-- what is called k -/
def bk (o : List Nat) : List Nat := (List.range o.length).map fun k => o.idxOf k
theorem len_le : ∀ (l m : List Nat), l.Nodup → (∀ x ∈ l, x ∈ m) → l.length ≤ m.length
  | [], _, _, _ => Nat.zero_le _
  | x :: l, m, nd, sub => by
    have hx : x ∈ m := sub x List.mem_cons_self
    have h1 := List.nodup_cons.mp nd
    have h2 := len_le l (m.erase x) h1.2 (fun y hy => (List.mem_erase_of_ne (show y ≠ x from fun e => h1.1 (by rw [← e]; exact hy))).mpr (sub y (List.mem_cons_of_mem _ hy)))
    rw [List.length_erase_of_mem hx] at h2
    have : 0 < m.length := List.length_pos_of_mem hx
    rw [List.length_cons]
    omega
/-- by the one and then by the other -/
def cmp (a b : List Nat) : List Nat := a.map fun k => g b k
/-! a table of a deed of p places over n numbers -/
structure Tab (n p : Nat) (t : List Nat) : Prop where
  len : t.length = n ^ p
  low : ∀ k, k < n ^ p → g t k < n
/-- the place from which the renamed table has its s-th number -/
def src (n p : Nat) (b : List Nat) (s : Nat) : Nat := if p = 0 then 0 else if p = 1 then g b s else g b (s / n) * n + g b (s % n)
def ren (n p : Nat) (o t : List Nat) : List Nat := (List.range (n ^ p)).map fun s => g o (g t (src n p (bk o) s))
/-! the law's own way: each number of the table put at its place -/
def spot (n p : Nat) (o : List Nat) (k : Nat) : Nat := g o (k % n) * (if 0 < p then 1 else 0) + g o (k / n % n) * n * (if p = 2 then 1 else 0)
/-- the first k numbers put -/
def led (n p : Nat) (o t : List Nat) : Nat → List Nat
  | 0 => t
  | k + 1 => (led n p o t k).set (spot n p o k) (g o (g t k))
end M20
end
section
/-! loops and comprehensions over anything that is walked; statements by what holds of a value -/
namespace Dw
open PySem PySem.Spec PyProof.Rows L2 Evl
section
variable {K : PySem.W.Frag} {σ : L2.St} {H H' : Hp} {ta tb te : TE} {t : TT} {x y z v : V} {P : V → Hp → Prop} {D : Ends} {tu tz : TS} {g : TG}
/-! ### statements -/
theorem s_asgP {i : Nat} (h : EvP te σ H P) (k : ∀ v H1, Ex H H1 → P v H1 → D.nx (σ.set i (some v)) H1) : tAsg te (gName i) D σ H := h H (Ex.refl H) _ fun v H1 e p => k v H1 e p
theorem q_asgP {i : Nat} (h : EvP te σ H P) (k : ∀ v H1, Ex H H1 → P v H1 → tz D (σ.set i (some v)) H1) : tSeq (tAsg te (gName i)) tz D σ H := s_asgP (D := { D with nx := tz D }) h k
theorem s_retP (h : EvP te σ H P) (k : ∀ v H1, Ex H H1 → P v H1 → D.rt v H1) : tRet te D σ H := h H (Ex.refl H) _ fun v H1 e p => k v H1 e p
/-- xs.append(e), e by what holds of it -/
theorem s_appP {l : Addr} {xs : List V} (hl : H l = some (.lst xs)) (ha : Ev ta σ H (.ref l)) (h : EvP te σ H P) (hz : xs.length < 100000) (k : ∀ v H1, Ex H H1 → P v H1 → D.nx σ (upd H1 l (.lst (xs ++ [v])))) :
    tDrop (tBM K "list" rAppend ta (tCons te tNil)) D σ H := by
  refine ha H (Ex.refl H) _ fun H1 e1 => ?_
  exact
  ⟨Or.inl ⟨rfl, xs, sq_of (e1 l _ hl)⟩, h H1 e1 _ fun v H2 e2 p => ⟨l, xs, v, rfl, rfl, e2 l _ (e1 l _ hl), sz_lt hz, k v H2 (e1.trans e2) p⟩⟩
/-! ### all -/
theorem ev_all {bs : List Bool} (h : EvL te σ H (bs.map V.bl)) : Ev (tCB (rAll K) (tCons te tNil)) σ H (.bl (bs.all id)) := fun H1 e Q q =>
  h H1 e _ fun p H2 _ e2 hp => ⟨p, bs, rfl, sq_of hp, q H2 e2⟩
/-! ### comprehensions -/
theorem et_yes : EvT tYes σ H true := fun H1 _ _ q => q H1 (Ex.refl H1)
/-- one for over anything whose turns leave the heap as it was -/
theorem el_lcIt {J : It} {n : Nat} {G : Hp → Prop} {Y : Nat → Hp → V → Hp → Prop} {wi : TI} {Px : Nat → V → Prop} {j : Nat} {vs : List Nat} (w : Walk J n G Y)
    (hw0 : ∀ H0, Ex H H0 → ∀ R : It → Hp → Prop, (∀ H1, Ex H0 H1 → R J H1) → wi σ H0 R) (hG : ∀ H1, Ex H H1 → G H1) (hY : ∀ i H x H', Y i H x H' → H' = H ∧ Px i x)
    (f : Nat → Bool) (u : Nat → V) (hn : n ≤ 40000) (hwp : ∀ x, wipe ((wipe σ vs).set j (some x)) vs = wipe σ vs)
    (ht : ∀ i x H1, Ex H H1 → i < n → Px i x → EvT t ((wipe σ vs).set j (some x)) H1 (f i)) (he : ∀ i x H1, Ex H H1 → i < n → Px i x → f i = true → Ev te ((wipe σ vs).set j (some x)) H1 (u i)) :
    EvL (tLc wi (gName j) t te vs) σ H (given n f u) := fun H0 e Q q => hw0 H0 e _ fun H1 e1 Dl hD =>
  lc_it w (Cw H1 f u Dl) ⟨hD, Ex.new hD, upd_same⟩ (fun i H2 _ p => hG H2 ((e.trans e1).trans p.2.1)) (fun i x H2 H3 hi p y => by
    obtain ⟨rfl, px⟩ := hY i H2 x H3 y
    exact ⟨hwp x, cw_turn p (by omega) (ht i x H1 (e.trans e1) hi px) (fun hf => he i x H1 (e.trans e1) hi px hf)⟩)
    (fun H2 p => q Dl H2 (fresh_back e1 p.1) (e1.trans p.2.1) p.2.2)
theorem given_all (n : Nat) (u : Nat → V) : given n (fun _ => true) u = (List.range n).map u := by
  unfold given
  rw [List.filter_eq_self.mpr (fun _ _ => rfl)]
/-- .. without a test -/
theorem el_lcAll {J : It} {n : Nat} {G : Hp → Prop} {Y : Nat → Hp → V → Hp → Prop} {wi : TI} {Px : Nat → V → Prop} {j : Nat} {vs : List Nat} (w : Walk J n G Y)
    (hw0 : ∀ H0, Ex H H0 → ∀ R : It → Hp → Prop, (∀ H1, Ex H0 H1 → R J H1) → wi σ H0 R) (hG : ∀ H1, Ex H H1 → G H1) (hY : ∀ i H x H', Y i H x H' → H' = H ∧ Px i x)
    (u : Nat → V) (hn : n ≤ 40000) (hwp : ∀ x, wipe ((wipe σ vs).set j (some x)) vs = wipe σ vs) (he : ∀ i x H1, Ex H H1 → i < n → Px i x → Ev te ((wipe σ vs).set j (some x)) H1 (u i)) :
    EvL (tLc wi (gName j) tYes te vs) σ H ((List.range n).map u) := by
  have h := el_lcIt w hw0 hG hY (fun _ => true) u hn hwp (fun _ _ _ _ _ _ => et_yes) (fun i x H1 e hi px _ => he i x H1 e hi px)
  rw [given_all] at h
  exact h
theorem w_str {z : Str} (h : Ev te σ H (.str z)) : ∀ H0, Ex H H0 → ∀ R : It → Hp → Prop, (∀ H1, Ex H0 H1 → R (Its z) H1) → iStr te σ H0 R := fun H0 e R r => h H0 e _ fun H1 e1 => ⟨z, rfl, r H1 e1⟩
theorem w_tup {a : Addr} {xs : List V} (h : Ev te σ H (.ref a)) (hx : SqT K H a xs) : ∀ H0, Ex H H0 → ∀ R : It → Hp → Prop, (∀ H1, Ex H0 H1 → R (Itt K a) H1) → iTup K te σ H0 R := fun H0 e R r => h H0 e _ fun H1 e1 => ⟨a, rfl, ⟨xs, ex_t (e.trans e1) hx⟩, r H1 e1⟩
theorem w_rng {ta : TA} {n : Nat} (h : EvA ta σ H [vi n]) (hn : n ≤ 40000) : ∀ H0, Ex H H0 → ∀ R : It → Hp → Prop, (∀ H1, Ex H0 H1 → R (Itr 0 n) H1) → iRng1 ta σ H0 R := fun H0 e R r => h H0 e _ fun H1 e1 => ⟨n, rfl, by omega, by omega, r H1 e1⟩
/-- over a tuple, a value for each item -/
theorem el_lcT {a : Addr} {xs : List V} {tl : TE} {j : Nat} {vs : List Nat} (h : Ev tl σ H (.ref a)) (hx : SqT K H a xs) (u : Nat → V) (hn : xs.length ≤ 40000) (hwp : ∀ x, wipe ((wipe σ vs).set j (some x)) vs = wipe σ vs)
    (he : ∀ i x H1, Ex H H1 → xs[i]? = some x → Ev te ((wipe σ vs).set j (some x)) H1 (u i)) : EvL (tLc (iTup K tl) (gName j) tYes te vs) σ H ((List.range xs.length).map u) :=
  el_lcAll walk_tup (w_tup h hx) (fun H1 e => ex_t e hx) (Px := fun i x => xs[i]? = some x) (fun i H x H' y => y) u hn hwp (fun i x H1 e _ px => he i x H1 e px)
theorem el_lcS {z : Str} {tl : TE} {j : Nat} {vs : List Nat} (h : Ev tl σ H (.str z)) (u : Nat → V) (hn : z.cps.size ≤ 40000) (hwp : ∀ x, wipe ((wipe σ vs).set j (some x)) vs = wipe σ vs)
    (he : ∀ i c H1, Ex H H1 → z.cps[i]? = some c → Ev te ((wipe σ vs).set j (some (.str ⟨#[c]⟩))) H1 (u i)) : EvL (tLc (iStr tl) (gName j) tYes te vs) σ H ((List.range z.cps.size).map u) :=
  el_lcAll walk_str (w_str h) (fun _ _ => trivial) (Px := fun i x => ∃ c, z.cps[i]? = some c ∧ x = .str ⟨#[c]⟩) (fun i H x H' y => y) u hn hwp (fun i x H1 e _ ⟨c, hc, hx⟩ => by subst hx; exact he i c H1 e hc)
theorem el_lcR {ta : TA} {n : Nat} {j : Nat} {vs : List Nat} (h : EvA ta σ H [vi n]) (u : Nat → V) (hn : n ≤ 40000) (hwp : ∀ x, wipe ((wipe σ vs).set j (some x)) vs = wipe σ vs)
    (he : ∀ i H1, Ex H H1 → i < n → Ev te ((wipe σ vs).set j (some (vi i))) H1 (u i)) : EvL (tLc (iRng1 ta) (gName j) tYes te vs) σ H ((List.range n).map u) :=
  el_lcAll walk_range (w_rng h hn) (fun _ _ => trivial) (Px := fun i x => x = vi i) (fun i H x H' y => ⟨y.1, by rw [y.2]; show V.int (0 + (i : Int)) = _; rw [Int.zero_add]⟩) u hn hwp (fun i x H1 e hi px => by subst px; exact he i H1 e hi)
/-! ### loops that give pairs -/
theorem walk_enumT {a : Addr} {xs : List V} : Walk (IteT K a) xs.length (fun H => SqT K H a xs) (YPair (fun i => some (vi i)) (fun i => xs[i]?)) := by
  refine ⟨fun i H hi q => ⟨xs, xs[i], q, List.getElem?_eq_getElem hi⟩, fun H q => ⟨xs, q, Nat.le_refl _⟩, fun i H v H' _ q y => ?_⟩
  obtain ⟨T, x, h1, h2, h3, h4⟩ := y
  exact ⟨T, vi i, x, h1, h2, h3, rfl, h4 xs q⟩
theorem q_enumT {a : Addr} {xs : List V} {ta : TA} {j1 j2 : Nat} (h : EvA ta σ H [.ref a]) (hx : SqT K H a xs) (Pv : Nat → L2.St → Hp → Prop) (h0 : ∀ H1, Ex H H1 → Pv 0 σ H1) (hl : ∀ i σ' H', i ≤ xs.length → Pv i σ' H' → SqT K H' a xs)
    (hs : ∀ i x σ' H' H'', xs[i]? = some x → Pv i σ' H' → Ex H' H'' → tu { D with nx := Pv (i + 1), ct := Pv (i + 1), bk := tz D } ((σ'.set j1 (some (vi i))).set j2 (some x)) H'') (hd : ∀ σ' H', Pv xs.length σ' H' → tz D σ' H') :
    tSeq (tFor (iEnumT K ta) (gTup K 2 (gCons (gName j1) (gCons (gName j2) gNil))) tu) tz D σ H :=
  h H (Ex.refl H) _ fun H1 e => ⟨a, xs, rfl, ex_t e hx, for_it (D := { D with nx := tz D }) walk_enumT Pv (h0 H1 e) hl (fun i v σ' H2 H3 hi p y => by
    obtain ⟨T, x1, x2, rfl, nT, rfl, e1, e2⟩ := y
    cases e1
    exact ⟨T, _, rfl, st_of upd_same, rfl, _, _, rfl, _, _, rfl, rfl, hs i x2 σ' H2 _ e2 p (Ex.new nT)⟩) hd⟩
theorem s_enumT {a : Addr} {xs : List V} {ta : TA} {j1 j2 : Nat} (h : EvA ta σ H [.ref a]) (hx : SqT K H a xs) (Pv : Nat → L2.St → Hp → Prop) (h0 : ∀ H1, Ex H H1 → Pv 0 σ H1) (hl : ∀ i σ' H', i ≤ xs.length → Pv i σ' H' → SqT K H' a xs)
    (hs : ∀ i x σ' H' H'', xs[i]? = some x → Pv i σ' H' → Ex H' H'' → tu { D with nx := Pv (i + 1), ct := Pv (i + 1), bk := D.nx } ((σ'.set j1 (some (vi i))).set j2 (some x)) H'') (hd : ∀ σ' H', Pv xs.length σ' H' → D.nx σ' H') :
    tFor (iEnumT K ta) (gTup K 2 (gCons (gName j1) (gCons (gName j2) gNil))) tu D σ H :=
  h H (Ex.refl H) _ fun H1 e => ⟨a, xs, rfl, ex_t e hx, for_it walk_enumT Pv (h0 H1 e) hl (fun i v σ' H2 H3 hi p y => by
    obtain ⟨T, x1, x2, rfl, nT, rfl, e1, e2⟩ := y
    cases e1
    exact ⟨T, _, rfl, st_of upd_same, rfl, _, _, rfl, _, _, rfl, rfl, hs i x2 σ' H2 _ e2 p (Ex.new nT)⟩) hd⟩
/-- enumerate of a list -/
theorem q_enumL {a : Addr} {xs : List V} {ta : TA} {j1 j2 : Nat} (h : EvA ta σ H [.ref a]) (hx : SqL K H a xs) (Pv : Nat → L2.St → Hp → Prop) (h0 : ∀ H1, Ex H H1 → Pv 0 σ H1) (hl : ∀ i σ' H', i ≤ xs.length → Pv i σ' H' → SqL K H' a xs)
    (hs : ∀ i x σ' H' H'', xs[i]? = some x → Pv i σ' H' → Ex H' H'' → tu { D with nx := Pv (i + 1), ct := Pv (i + 1), bk := tz D } ((σ'.set j1 (some (vi i))).set j2 (some x)) H'') (hd : ∀ σ' H', Pv xs.length σ' H' → tz D σ' H') :
    tSeq (tFor (iEnum K ta) (gTup K 2 (gCons (gName j1) (gCons (gName j2) gNil))) tu) tz D σ H :=
  h H (Ex.refl H) _ fun H1 e => ⟨a, xs, rfl, ex_l e hx, for_it (D := { D with nx := tz D }) walk_enum Pv (h0 H1 e) hl (fun i v σ' H2 H3 hi p y => by
    obtain ⟨T, x1, x2, rfl, nT, rfl, e1, e2⟩ := y
    cases e1
    exact ⟨T, _, rfl, st_of upd_same, rfl, _, _, rfl, _, _, rfl, rfl, hs i x2 σ' H2 _ e2 p (Ex.new nT)⟩) hd⟩
end
end Dw
end
section
/-! comprehensions of two fors; new tuples of lists; lists made and changed -/
namespace Dw
open PySem PySem.Spec PyProof.Rows L2 Evl
section
variable {K : PySem.W.Frag} {σ : L2.St} {H H' : Hp} {ta tb te : TE} {t : TT} {x y z v : V} {P : V → Hp → Prop} {D : Ends} {tu tz : TS} {g : TG}
/-- tuple(a new list) -/
def rTupOf (K : PySem.W.Frag) : List V → Hp → VK → Prop := fun xs H Q => ∃ p ys, xs = [.ref p] ∧ ((SqL K H p ys ∧ ∀ l, H l = none → Q (.ref l) (upd H l (.tup ys))) ∨ (SqT K H p ys ∧ Q (.ref p) H))
theorem eu_tupN {xs : List V} (h : EvL te σ H xs) : EvU (tCB (rTupOf K) (tCons te tNil)) σ H xs := fun H1 e Q q =>
  h H1 e _ fun p H2 _ e2 hp => ⟨p, xs, rfl, .inl ⟨sq_of hp, fun l nl => q l _ (fresh_back e2 nl) (e2.trans (Ex.new nl)) upd_same⟩⟩
/-- tuple(a list that stands) -/
theorem eu_tupL {xs : List V} {p : Addr} (h : Ev te σ H (.ref p)) (hp : SqL K H p xs) : EvU (tCB (rTupOf K) (tCons te tNil)) σ H xs := fun H1 e Q q =>
  h H1 e _ fun H2 e2 => ⟨p, xs, rfl, .inl ⟨ex_l (e.trans e2) hp, fun l nl => q l _ (fresh_back e2 nl) (e2.trans (Ex.new nl)) upd_same⟩⟩
end
end Dw
end
section
/-! zip of two tuples; tuples of values by what holds of them -/
namespace Dw
open PySem PySem.Spec PyProof.Rows L2 Evl RZ
section
variable {K : PySem.W.Frag} {σ : L2.St} {H H' : Hp} {ta tb te : TE} {t : TT} {x y z v : V} {P : V → Hp → Prop} {D : Ends} {tu tz : TS} {g : TG}
theorem walk_zipT {a b : Addr} {xs ys : List V} (hl : xs.length = ys.length) : Walk (ItzT K a b) xs.length (fun H => SqT K H a xs ∧ SqT K H b ys) (YPair (fun i => xs[i]?) (fun i => ys[i]?)) := by
  refine ⟨fun i H hi q => ⟨xs, ys, xs[i], ys[i]'(by rw [← hl]; exact hi), q.1, q.2, List.getElem?_eq_getElem hi, List.getElem?_eq_getElem (by rw [← hl]; exact hi)⟩, fun H q => ⟨xs, ys, q.1, q.2, .inl (Nat.le_refl _)⟩, fun i H v H' _ q y => ?_⟩
  obtain ⟨T, x1, x2, h1, h2, h3, h4, h5⟩ := y
  exact ⟨T, x1, x2, h1, h2, h3, h4 xs q.1, h5 ys q.2⟩
theorem q_zipT {a b : Addr} {xs ys : List V} {ta : TA} (h : EvA ta σ H [.ref a, .ref b]) (hx : SqT K H a xs) (hy : SqT K H b ys) (hl : xs.length = ys.length) (Pv : Nat → L2.St → Hp → Prop) (h0 : ∀ H1, Ex H H1 → Pv 0 σ H1) (hk : ∀ i σ' H', i ≤ xs.length → Pv i σ' H' → SqT K H' a xs ∧ SqT K H' b ys)
    (hs : ∀ i x y T σ' H', xs[i]? = some x → ys[i]? = some y → Pv i σ' H' → H' T = none → g (.ref T) σ' (upd H' T (.tup [x, y])) fun σ2 H2 => tu { D with nx := Pv (i + 1), ct := Pv (i + 1), bk := tz D } σ2 H2) (hd : ∀ σ' H', Pv xs.length σ' H' → tz D σ' H') :
    tSeq (tFor (iZipA K ta) g tu) tz D σ H :=
  h H (Ex.refl H) _ fun H1 e => ⟨a, b, xs, ys, rfl, .inr ⟨ex_t e hx, ex_t e hy, for_it (D := { D with nx := tz D }) (walk_zipT hl) Pv (h0 H1 e) hk (fun i v σ' H2 H3 hi p y => by
    obtain ⟨T, x1, x2, rfl, nT, rfl, e1, e2⟩ := y
    exact hs i x1 x2 T σ' H2 e1 e2 p nT) hd⟩⟩
end
end Dw
end
section
/-! a new tuple told with its own object (so that its methods may be called); tuple.index of ints -/
namespace Dw
open PySem PySem.Spec PyProof.Rows L2 Evl
/-! readings opened by one step -/
section
variable {σ : L2.St} {H : Hp} {ta tb te : TE} {D : Ends} {g : TG}
theorem do_cons {tr : TA} {Q : List V → Hp → Prop} (h : ta σ H fun x H1 => tr σ H1 fun xs H2 => Q (x :: xs) H2) : tCons ta tr σ H Q := h
theorem do_nil {Q : List V → Hp → Prop} (h : Q [] H) : tNil σ H Q := h
theorem do_op {r : R2} {Q : VK} (h : ta σ H fun x H1 => tb σ H1 fun y H2 => r x y H2 Q) : tOp r ta tb σ H Q := h
theorem do_tup {t : TA} {Q : VK} (h : t σ H fun xs H1 => xs.length ≤ sizeLine ∧ ∀ p, H1 p = none → Q (.ref p) (upd H1 p (.tup xs))) : tTup t σ H Q := h
theorem do_lst {t : TA} {Q : VK} (h : t σ H fun xs H1 => xs.length ≤ sizeLine ∧ ∀ p, H1 p = none → Q (.ref p) (upd H1 p (.lst xs))) : tLst t σ H Q := h
theorem do_cb {r : List V → Hp → VK → Prop} {t : TA} {Q : VK} (h : t σ H fun vs H1 => r vs H1 Q) : tCB r t σ H Q := h
theorem do_test {Q : Bool → Hp → Prop} (h : te σ H fun x H' => ∃ k, x = .bl k ∧ Q k H') : tTest te σ H Q := h
theorem do_ret (h : te σ H D.rt) : tRet te D σ H := h
theorem do_asg (h : te σ H fun x H1 => g x σ H1 D.nx) : tAsg te g D σ H := h
theorem do_ev {v : V} {Q : VK} (h : Ev te σ H v) (k : ∀ H1, Ex H H1 → Q v H1) : te σ H Q := h H (Ex.refl H) Q k
theorem do_evL {xs : List V} {Q : VK} (h : EvL te σ H xs) (k : ∀ p H1, H p = none → Ex H H1 → H1 p = some (.lst xs) → Q (.ref p) H1) : te σ H Q := h H (Ex.refl H) Q k
theorem do_evP {P : V → Hp → Prop} {Q : VK} (h : EvP te σ H P) (k : ∀ v H1, Ex H H1 → P v H1 → Q v H1) : te σ H Q := h H (Ex.refl H) Q k
end
section
variable {X : Cx}
theorem ints_of : ∀ {ns : List Int} {us : List Value}, Vals (ns.map V.int) us → IntsAre us ns
  | [], _, .nil => .nil
  | n :: ns, _, .cons (b := u) r t => by
    obtain ⟨tk, e⟩ := (show ∃ t, u = Value.int n t from r)
    subst e
    exact .cons n tk (ints_of t)
end
end Dw
end
section
/-! the mathematics of own orders, over plain lists of natural numbers -/
namespace M25
open M20
/-! begins of orders: the numbers called so far, in the order of their new names -/
/-- a begin of length L -/
structure Bg (n L : Nat) (b : List Nat) : Prop where
  len : b.length = L
  low : ∀ x ∈ b, x < n
  nd : b.Nodup
def free (n : Nat) (b : List Nat) : List Nat := (List.range n).filter fun k => !decide (k ∈ b)
theorem mem_free {n k : Nat} {b : List Nat} : k ∈ free n b ↔ k < n ∧ k ∉ b := by
  unfold free
  rw [List.mem_filter, List.mem_range]
  constructor
  · rintro ⟨a, c⟩
    exact ⟨a, fun z => by rw [decide_eq_true z] at c; cases c⟩
  · rintro ⟨a, c⟩
    exact ⟨a, by rw [decide_eq_false c]; rfl⟩
def ext1 (n : Nat) (bs : List (List Nat)) : List (List Nat) := bs.flatMap fun b => (free n b).map fun k => b ++ [k]
def allc (n : Nat) : Nat → List (List Nat) → List (List Nat)
  | 0, bs => bs
  | k + 1, bs => allc n k (ext1 n bs)
/-- rows of begins, all of one length -/
structure Bgs (n L : Nat) (bs : List (List Nat)) : Prop where
  each : ∀ b ∈ bs, Bg n L b
  nd : bs.Nodup
theorem Bg.snoc {n L k : Nat} {b : List Nat} (h : Bg n L b) (hk : k < n) (m : k ∉ b) : Bg n (L + 1) (b ++ [k]) := ⟨by rw [List.length_append, h.len]; rfl, fun x hx => by
  rcases List.mem_append.mp hx with z | z
  · exact h.low x z
  · rw [List.mem_singleton.mp z]; exact hk, by
  rw [List.nodup_append]
  refine ⟨h.nd, List.nodup_cons.mpr ⟨(by intro z; cases z), List.nodup_nil⟩, fun a ha c hc e => ?_⟩
  rw [List.mem_singleton.mp hc] at e
  exact m (e ▸ ha)⟩
theorem snoc_inj {b c : List Nat} {x y : Nat} (h : b ++ [x] = c ++ [y]) : b = c ∧ x = y := by
  have := List.append_inj' h rfl
  exact ⟨this.1, by simpa using this.2⟩
theorem free_nd (n : Nat) (b : List Nat) : (free n b).Nodup := List.Pairwise.filter _ List.nodup_range
theorem ext1_mem {n : Nat} {bs : List (List Nat)} {c : List Nat} : c ∈ ext1 n bs ↔ ∃ b ∈ bs, ∃ k, k < n ∧ k ∉ b ∧ c = b ++ [k] := by
  unfold ext1
  rw [List.mem_flatMap]
  constructor
  · rintro ⟨b, hb, hc⟩
    obtain ⟨k, hk, rfl⟩ := List.mem_map.mp hc
    obtain ⟨a, d⟩ := mem_free.mp hk
    exact ⟨b, hb, k, a, d, rfl⟩
  · rintro ⟨b, hb, k, a, d, rfl⟩
    exact ⟨b, hb, List.mem_map.mpr ⟨k, mem_free.mpr ⟨a, d⟩, rfl⟩⟩
theorem ext1_nd {n : Nat} : ∀ {bs : List (List Nat)}, bs.Nodup → (ext1 n bs).Nodup
  | [], _ => List.nodup_nil
  | b :: bs, h => by
    rw [List.nodup_cons] at h
    show ((free n b).map (fun k => b ++ [k]) ++ ext1 n bs).Nodup
    rw [List.nodup_append]
    refine ⟨?_, ext1_nd h.2, fun x hx y hy e => ?_⟩
    · rw [List.nodup_iff_pairwise_ne, List.pairwise_map]
      exact (List.nodup_iff_pairwise_ne.mp (free_nd n b)).imp fun z e => z (snoc_inj e).2
    · obtain ⟨k, _, rfl⟩ := List.mem_map.mp hx
      obtain ⟨c, hc, j, _, _, rfl⟩ := ext1_mem.mp hy
      exact h.1 ((snoc_inj e).1 ▸ hc)
theorem Bgs.ext1 {n L : Nat} {bs : List (List Nat)} (h : Bgs n L bs) : Bgs n (L + 1) (ext1 n bs) := ⟨fun c hc => by
  obtain ⟨b, hb, k, a, d, rfl⟩ := ext1_mem.mp hc
  exact (h.each b hb).snoc a d, ext1_nd h.nd⟩
theorem Bgs.allc {n : Nat} : ∀ {k L : Nat} {bs : List (List Nat)}, Bgs n L bs → Bgs n (L + k) (allc n k bs)
  | 0, _, _, h => h
  | k + 1, L, bs, h => by
    have := Bgs.allc (k := k) h.ext1
    rw [Nat.add_assoc, Nat.add_comm 1 k] at this
    exact this
/-! orders told by what is called 0, 1, .. -/
theorem bg_ord {n : Nat} {q : List Nat} : Bg n n q ↔ Ord n q := by
  constructor
  · intro h
    refine ⟨h.len, fun k hk => h.low _ (List.mem_iff_getElem?.mpr ⟨k, g_eq (by rw [h.len]; exact hk)⟩), fun j k hj hk e => ?_⟩
    have a := g_eq (l := q) (k := j) (by rw [h.len]; exact hj)
    have b := g_eq (l := q) (k := k) (by rw [h.len]; exact hk)
    rw [e, ← b] at a
    have hj' : j < q.length := by rw [h.len]; exact hj
    have hk' : k < q.length := by rw [h.len]; exact hk
    rw [List.getElem?_eq_getElem hj', List.getElem?_eq_getElem hk'] at a
    have p := List.pairwise_iff_getElem.mp (List.nodup_iff_pairwise_ne.mp h.nd)
    rcases Nat.lt_trichotomy j k with z | z | z
    · exact absurd (Option.some.inj a) (p j k hj' hk' z)
    · exact z
    · exact absurd (Option.some.inj a).symm (p k j hk' hj' z)
  · intro h
    refine ⟨h.len, fun x hx => ?_, ?_⟩
    · obtain ⟨i, hi, e⟩ := List.mem_iff_getElem.mp hx
      have a := g_eq hi
      rw [List.getElem?_eq_getElem hi, e] at a
      rw [Option.some.inj a]
      exact h.low i (by rw [← h.len]; exact hi)
    · rw [List.nodup_iff_pairwise_ne, List.pairwise_iff_getElem]
      intro i j hi hj hij e
      have a := g_eq hi
      have b := g_eq hj
      rw [List.getElem?_eq_getElem hi, e] at a
      rw [List.getElem?_eq_getElem hj] at b
      have := h.inj i j (by rw [← h.len]; exact hi) (by rw [← h.len]; exact hj) ((Option.some.inj a).symm.trans (Option.some.inj b))
      omega
/-- an order goes on from one of the begins -/
def On (bs : List (List Nat)) (q : List Nat) : Prop := ∃ b ∈ bs, b <+: q
theorem on_ext1 {n L : Nat} {bs : List (List Nat)} {q : List Nat} (h : Bgs n L bs) (lt : L < n) (hq : Bg n n q) : On (ext1 n bs) q ↔ On bs q := by
  constructor
  · rintro ⟨c, hc, p⟩
    obtain ⟨b, hb, k, _, _, rfl⟩ := ext1_mem.mp hc
    exact ⟨b, hb, (List.prefix_append b [k]).trans p⟩
  · rintro ⟨b, hb, r, e⟩
    cases r with
    | nil =>
      rw [List.append_nil] at e
      have a := (h.each b hb).len
      have c := hq.len
      rw [← e] at c
      omega
    | cons k r =>
      have nd := hq.nd
      rw [← e] at nd
      have m : k ∉ b := fun z => (List.nodup_append.mp nd).2.2 k z k (List.mem_cons_self ..) rfl
      have lo : k < n := hq.low k (by rw [← e]; exact List.mem_append_right _ (List.mem_cons_self ..))
      exact ⟨b ++ [k], ext1_mem.mpr ⟨b, hb, k, lo, m, rfl⟩, r, by rw [List.append_assoc]; exact e⟩
theorem on_allc {n : Nat} {q : List Nat} (hq : Bg n n q) : ∀ {k L : Nat} {bs : List (List Nat)}, Bgs n L bs → L + k ≤ n → (On (allc n k bs) q ↔ On bs q)
  | 0, _, _, _, _ => Iff.rfl
  | k + 1, L, bs, h, le => (on_allc hq h.ext1 (by omega)).trans (on_ext1 h (by omega) hq)
theorem prefix_full {n : Nat} {b q : List Nat} (h : Bg n n b) (hq : Bg n n q) (p : b <+: q) : b = q := by
  obtain ⟨r, e⟩ := p
  have a := h.len
  have c := hq.len
  rw [← e, List.length_append] at c
  cases r with
  | nil =>
    rw [List.append_nil] at e
    exact e
  | cons k r =>
    rw [List.length_cons] at c
    omega
theorem on_full {n : Nat} {bs : List (List Nat)} {q : List Nat} (h : Bgs n n bs) (hq : Bg n n q) : On bs q ↔ q ∈ bs := ⟨fun ⟨b, hb, p⟩ => prefix_full (h.each b hb) hq p ▸ hb, fun m => ⟨q, m, List.prefix_rfl⟩⟩
/-! the worth of a cell -/
/-- the place of old numbers -/
def at_ (n : Nat) (b args : List Nat) : Nat := args.foldl (fun a k => a * n + g b k) 0
def old (n : Nat) (t args b : List Nat) : Nat := g t (at_ n b args)
def told (n : Nat) (t args b : List Nat) : Nat := if old n t args b ∈ b then b.idxOf (old n t args b) else b.length
def kept (n : Nat) (t args b : List Nat) : List Nat := if old n t args b ∈ b then b else b ++ [old n t args b]
/-- the least that is told, the first ahead -/
def best (n : Nat) (t args : List Nat) : List (List Nat) → Nat → Nat
  | [], m => m
  | b :: bs, m => best n t args bs (min m (told n t args b))
def lst (n : Nat) (t args : List Nat) (bs : List (List Nat)) : List (List Nat) := (bs.filter fun b => decide (told n t args b = best n t args bs n)).map (kept n t args)
end M25
end
section
/-! the mathematics of own orders: what is the same for all, tables of cells, the orders that lead to the least -/
namespace M25
open M20
/-! ### what two orders leave, all leave -/
def sw (n i : Nat) : List Nat := (List.range n).map fun k => if k = i then i + 1 else if k = i + 1 then i else k
def rot (n : Nat) : List Nat := (List.range n).map fun k => if k + 1 = n then 0 else k + 1
def same (n p : Nat) (t : List Nat) : Bool := decide (n = 1) || (decide (ren n p (sw n 0) t = t) && decide (ren n p (rot n) t = t))
/-! ### rows of numbers -/
def rows (n : Nat) : Nat → List (List Nat)
  | 0 => [[]]
  | p + 1 => (rows n p).flatMap fun r => (List.range n).map fun k => r ++ [k]
theorem rows_of {n : Nat} : ∀ {p : Nat} {r : List Nat}, r ∈ rows n p → r.length = p ∧ ∀ k ∈ r, k < n
  | 0, r, h => by
    rw [List.mem_singleton.mp h]
    exact ⟨rfl, fun k z => by cases z⟩
  | p + 1, r, h => by
    obtain ⟨s, hs, h2⟩ := List.mem_flatMap.mp h
    obtain ⟨k, hk, rfl⟩ := List.mem_map.mp h2
    obtain ⟨a, b⟩ := rows_of hs
    refine ⟨by rw [List.length_append, a]; rfl, fun j hj => ?_⟩
    rcases List.mem_append.mp hj with z | z
    · exact b j z
    · rw [List.mem_singleton.mp z]
      exact List.mem_range.mp hk
theorem flatr {α : Type} (m : Nat) (hm : 0 < m) (f : Nat → Nat → α) : ∀ n, ((List.range n).flatMap fun i => (List.range m).map (f i)) = (List.range (n * m)).map fun s => f (s / m) (s % m)
  | 0 => by rw [Nat.zero_mul]; rfl
  | n + 1 => by
    rw [List.range_succ, List.flatMap_append, flatr m hm f n, List.flatMap_singleton, Nat.add_mul, Nat.one_mul, List.range_add, List.map_append, List.map_map]
    congr 1
    apply List.map_congr_left
    intro k hk
    have hk' := List.mem_range.mp hk
    show f n k = f ((n * m + k) / m) ((n * m + k) % m)
    rw [Nat.add_comm (n * m) k, Nat.add_mul_div_right _ _ hm, Nat.div_eq_of_lt hk', Nat.zero_add, Nat.add_mul_mod_self_right, Nat.mod_eq_of_lt hk']
theorem rows_1 (n : Nat) : rows n 1 = (List.range n).map fun k => [k] := by
  show ([[]] : List (List Nat)).flatMap _ = _
  rw [List.flatMap_singleton]
  rfl
theorem rows_2 {n : Nat} (h : 0 < n) : rows n 2 = (List.range (n * n)).map fun s => [s / n, s % n] := by
  show (rows n 1).flatMap _ = _
  rw [rows_1, List.flatMap_map]
  exact flatr n h (fun i j => [i, j]) n
/-! ### the steps -/
def need (args : List Nat) : Nat := args.foldr (fun k m => max (k + 1) m) 0
theorem need_lt : ∀ {args : List Nat}, ∀ k ∈ args, k < need args
  | [], _, h => nomatch h
  | j :: r, k, h => by
    show k < max (j + 1) (need r)
    rcases List.mem_cons.mp h with rfl | h
    · omega
    · have := need_lt k h
      omega
theorem need_le {m : Nat} : ∀ {args : List Nat}, (∀ k ∈ args, k < m) → need args ≤ m
  | [], _ => Nat.zero_le _
  | j :: r, h => by
    show max (j + 1) (need r) ≤ m
    have := need_le (args := r) fun k hk => h k (List.mem_cons_of_mem _ hk)
    have := h j (List.mem_cons_self ..)
    omega
def ln (bs : List (List Nat)) : Nat := (bs.headD []).length
def grow (n many : Nat) (bs : List (List Nat)) : List (List Nat) := allc n (many - ln bs) bs
def stepV (n : Nat) (t : List Nat) (bs : List (List Nat)) (args : List Nat) : Nat := best n t args (grow n (need args) bs) n
def stepB (n : Nat) (t : List Nat) (bs : List (List Nat)) (args : List Nat) : List (List Nat) := lst n t args (grow n (need args) bs)
/-- begins as they go on -/
def Good (n : Nat) (bs : List (List Nat)) : Prop := ∃ L, L ≤ n ∧ Bgs n L bs ∧ bs ≠ []
theorem ln_is {n L : Nat} {bs : List (List Nat)} (h : Bgs n L bs) (ne : bs ≠ []) : ln bs = L := by
  cases bs with
  | nil => exact absurd rfl ne
  | cons b r => exact (h.each b (List.mem_cons_self ..)).len
theorem Good.bgs {n : Nat} {bs : List (List Nat)} (h : Good n bs) : Bgs n (ln bs) bs := by
  obtain ⟨L, a, b, c⟩ := h
  rw [ln_is b c]
  exact b
theorem Good.ln_le {n : Nat} {bs : List (List Nat)} (h : Good n bs) : ln bs ≤ n := by
  obtain ⟨L, a, b, c⟩ := h
  rw [ln_is b c]
  exact a
theorem Good.ne {n : Nat} {bs : List (List Nat)} (h : Good n bs) : bs ≠ [] := let ⟨_, _, _, c⟩ := h; c
def rowV (n : Nat) (t : List Nat) : List (List Nat) → List (List Nat) → List Nat
  | _, [] => []
  | bs, a :: as => stepV n t bs a :: rowV n t (stepB n t bs a) as
def rowB (n : Nat) (t : List Nat) : List (List Nat) → List (List Nat) → List (List Nat)
  | bs, [] => bs
  | bs, a :: as => rowB n t (stepB n t bs a) as
/-! ### tables, one behind the other -/
abbrev PT := Nat × List Nat
def tabB (n : Nat) : List PT → List (List Nat) → List (List Nat)
  | [], bs => bs
  | x :: r, bs => if same n x.1 x.2 = true then tabB n r bs else tabB n r (rowB n x.2 bs (rows n x.1))
def tabV (n : Nat) : List PT → List (List Nat) → List (List Nat)
  | [], _ => []
  | x :: r, bs => if same n x.1 x.2 = true then x.2 :: tabV n r bs else rowV n x.2 bs (rows n x.1) :: tabV n r (rowB n x.2 bs (rows n x.1))
theorem start_good (n : Nat) : Good n [[]] := ⟨0, Nat.zero_le _, ⟨fun b hb => by
  rw [List.mem_singleton.mp hb]
  exact ⟨rfl, fun x z => (by cases z), List.nodup_nil⟩, List.nodup_cons.mpr ⟨(by intro z; cases z), List.nodup_nil⟩⟩, fun z => by cases z⟩
theorem start_on (q : List Nat) : On [[]] q := ⟨[], List.mem_singleton.mpr rfl, q, rfl⟩
/-- the orders that lead to the least, told by what is called 0, 1, .. -/
def fin (n : Nat) (l : List PT) : List (List Nat) := grow n n (tabB n l [[]])
def least (n : Nat) (l : List PT) : List (List Nat) := tabV n l [[]]
end M25
end
section
/-! own orders: a group, its number, its lots -/
namespace M25
open M20
def orders (n : Nat) (l : List PT) : List (List Nat) := (fin n l).map bk
def first (os : List (List Nat)) : List Nat := os.headD []
def own (n : Nat) (l : List PT) : List (List Nat) := (orders n l).map fun a => cmp a (bk (first (orders n l)))
/-! ### their number -/
def fact : Nat → Nat
  | 0 => 1
  | k + 1 => fact k * (k + 1)
theorem free_len {n L : Nat} {b : List Nat} (h : Bg n L b) : (free n b).length = n - L := by
  have nd : (free n b ++ b).Nodup := List.nodup_append.mpr ⟨free_nd n b, h.nd, fun x hx y hy e => (mem_free.mp hx).2 (e ▸ hy)⟩
  have a := len_le (free n b ++ b) (List.range n) nd fun x hx => List.mem_range.mpr (by
    rcases List.mem_append.mp hx with z | z
    · exact (mem_free.mp z).1
    · exact h.low x z)
  have c := len_le (List.range n) (free n b ++ b) List.nodup_range fun x hx => by
    by_cases z : x ∈ b
    · exact List.mem_append_right _ z
    · exact List.mem_append_left _ (mem_free.mpr ⟨List.mem_range.mp hx, z⟩)
  rw [List.length_append, List.length_range, h.len] at a c
  omega
theorem ext1_len {n L : Nat} : ∀ {bs : List (List Nat)}, (∀ b ∈ bs, Bg n L b) → (ext1 n bs).length = bs.length * (n - L)
  | [], _ => by simp [ext1]
  | b :: bs, h => by
    show ((free n b).map (fun k => b ++ [k]) ++ ext1 n bs).length = _
    rw [List.length_append, List.length_map, free_len (h b (List.mem_cons_self ..)), ext1_len fun c hc => h c (List.mem_cons_of_mem _ hc), List.length_cons, Nat.add_mul, Nat.one_mul, Nat.add_comm]
theorem allc_len {n : Nat} : ∀ {k L : Nat} {bs : List (List Nat)}, Bgs n L bs → L + k = n → (allc n k bs).length = bs.length * fact k
  | 0, _, bs, _, _ => (Nat.mul_one _).symm
  | k + 1, L, bs, h, e => by
    show (allc n k (ext1 n bs)).length = _
    rw [allc_len h.ext1 (by omega), ext1_len h.each, show n - L = k + 1 by omega, fact, Nat.mul_assoc, Nat.mul_comm (k + 1)]
def all_ (n : Nat) : List (List Nat) := allc n n [[]]
theorem all_bgs (n : Nat) : Bgs n n (all_ n) := by
  have := (start_good n).bgs.allc (k := n)
  rw [show ln [[]] = 0 from rfl, Nat.zero_add] at this
  exact this
theorem all_len (n : Nat) : (all_ n).length = fact n := by
  have := allc_len (k := n) (start_good n).bgs (by rw [show ln [[]] = 0 from rfl, Nat.zero_add])
  rw [show ([[]] : List (List Nat)).length = 1 from rfl, Nat.one_mul] at this
  exact this
theorem all_mem {n : Nat} {a : List Nat} : a ∈ all_ n ↔ Ord n a := by
  constructor
  · exact fun h => bg_ord.mp ((all_bgs n).each a h)
  · intro h
    have hq := bg_ord.mpr h
    exact (on_full (all_bgs n) hq).mp ((on_allc hq (k := n) (start_good n).bgs (by rw [show ln [[]] = 0 from rfl]; omega)).mpr (start_on a))
/-! ### led over by an order -/
/-! ### lots -/
def orb (n : Nat) (os : List (List Nat)) (k : Nat) : List Nat := (List.range n).filter fun j => os.any fun a => decide (g a k = j)
def lots (n : Nat) (os : List (List Nat)) : List (List Nat) := ((List.range n).filter fun k => decide ((orb n os k).headD 0 = k)).map (orb n os)
end M25
end
section
/-! how many begins there are; names told by a begin -/
namespace M25
open M20
theorem fact_pos : ∀ n, 1 ≤ fact n
  | 0 => Nat.le_refl _
  | n + 1 => by
    show 1 ≤ fact n * (n + 1)
    have := fact_pos n
    exact Nat.le_trans this (Nat.le_mul_of_pos_right _ (Nat.succ_pos n))
theorem fact6 {n : Nat} (h : n ≤ 6) : fact n ≤ 720 := by
  match n, h with
  | 0, _ => decide
  | 1, _ => decide
  | 2, _ => decide
  | 3, _ => decide
  | 4, _ => decide
  | 5, _ => decide
  | 6, _ => decide
theorem sub_len {l m : List (List Nat)} (h1 : l.Nodup) (h : ∀ x ∈ l, x ∈ m) : l.length ≤ m.length := by
  induction l generalizing m with
  | nil => exact Nat.zero_le _
  | cons x l ih =>
    have hx := h x (List.mem_cons_self ..)
    rw [List.nodup_cons] at h1
    have := ih (m := m.erase x) h1.2 fun y hy => (List.mem_erase_of_ne (show y ≠ x from fun e => h1.1 (by rw [← e]; exact hy))).mpr (h y (List.mem_cons_of_mem _ hy))
    rw [List.length_erase_of_mem hx] at this
    have := List.length_pos_of_mem hx
    rw [List.length_cons]
    omega
theorem bgs_few {n L : Nat} {bs : List (List Nat)} (h : Bgs n L bs) (le : L ≤ n) : bs.length ≤ fact n := by
  have a := allc_len h (k := n - L) (by omega)
  have b : Bgs n (L + (n - L)) (allc n (n - L) bs) := h.allc
  rw [show L + (n - L) = n by omega] at b
  have c := sub_len b.nd fun x hx => all_mem.mpr (bg_ord.mp (b.each x hx))
  rw [all_len, a] at c
  exact Nat.le_trans (Nat.le_mul_of_pos_right _ (fact_pos _)) c
theorem Good.few {n : Nat} {bs : List (List Nat)} (h : Good n bs) (n6 : n ≤ 6) : bs.length ≤ 720 := Nat.le_trans (bgs_few h.bgs h.ln_le) (fact6 n6)
end M25
end
section
/-! data of tracked things: what repr and == want of it -/
namespace Dw
open PySem PySem.Spec PyProof.Rows L2 Evl
/-- small data: depth at most k, weight at most W -/
structure Gd (k W : Nat) (d : PyData) : Prop where
  lay : d.canLay0 = true
  dep : d.depth ≤ k
  wgt : d.weight ≤ W
  its : d.intsShort 13 = true
  sho : d.showable = true
theorem Gd.mono {k W k' W' : Nat} {d : PyData} (h : Gd k W d) (a : k ≤ k') (b : W ≤ W') : Gd k' W' d := ⟨h.lay, Nat.le_trans h.dep a, Nat.le_trans h.wgt b, h.its, h.sho⟩
theorem log_low {n : Nat} (h : n ≤ 1000) : n.log2 ≤ 9 := by
  by_cases z : n = 0
  · subst z
    decide
  · exact Nat.le_of_lt_succ ((Nat.log2_lt z).mpr (by have e : 2 ^ 10 = 1024 := by decide
                                                     omega))
theorem gd_int {n : Nat} (h : n ≤ 1000) : Gd 0 10 (.int (n : Int)) := by
  have l := log_low h
  refine ⟨by rw [PyData.canLay0], by rw [PyData.depth]; exact Nat.le_refl _, ?_, ?_, ?_⟩
  · rw [PyData.weight, Int.natAbs_natCast]
    split <;> omega
  · rw [PyData.intsShort]
    exact decide_eq_true (PyData.shown_int_le2 (by omega) (by omega))
  · rw [PyData.showable, Int.natAbs_natCast]
    exact decide_eq_true (by omega)
theorem gd_all {k W : Nat} : ∀ {ds : List PyData}, (∀ d ∈ ds, Gd k W d) → PyData.canLayAll0 ds = true ∧ PyData.depthAll ds ≤ k ∧ PyData.weightAll ds ≤ ds.length * (W + 1) ∧ PyData.intsShortAll 13 ds = true ∧ PyData.showableAll ds = true
  | [], _ => ⟨by rw [PyData.canLayAll0], by rw [PyData.depthAll]; exact Nat.zero_le _, by rw [PyData.weightAll]; exact Nat.zero_le _, by rw [PyData.intsShortAll], by rw [PyData.showableAll]⟩
  | d :: ds, h => by
    obtain ⟨a, b, c, e, f⟩ := gd_all (ds := ds) fun x hx => h x (List.mem_cons_of_mem _ hx)
    have g := h d (List.mem_cons_self ..)
    refine ⟨by rw [PyData.canLayAll0, g.lay, a]; rfl, by rw [PyData.depthAll]; exact Nat.max_le.mpr ⟨g.dep, b⟩, ?_, by rw [PyData.intsShortAll, g.its, e]; rfl, by rw [PyData.showableAll, g.sho, f]; rfl⟩
    have w := g.wgt
    rw [PyData.weightAll, List.length_cons, Nat.succ_mul]
    omega
theorem gd_tup {k W L : Nat} {ds : List PyData} (h : ∀ d ∈ ds, Gd k W d) (l : ds.length ≤ L) : Gd (k + 1) (L * (W + 1)) (.tuple ds) := by
  obtain ⟨a, b, c, e, f⟩ := gd_all h
  exact ⟨by rw [PyData.canLay0]; exact a, by rw [PyData.depth]; omega, by rw [PyData.weight]; exact Nat.le_trans c (Nat.mul_le_mul_right _ l), by rw [PyData.intsShort]; exact e, by rw [PyData.showable]; exact f⟩
theorem gd_lst {k W L : Nat} {ds : List PyData} (h : ∀ d ∈ ds, Gd k W d) (l : ds.length ≤ L) : Gd (k + 1) (L * (W + 1)) (.list ds) := by
  obtain ⟨a, b, c, e, f⟩ := gd_all h
  exact ⟨by rw [PyData.canLay0]; exact a, by rw [PyData.depth]; omega, by rw [PyData.weight]; exact Nat.le_trans c (Nat.mul_le_mul_right _ l), by rw [PyData.intsShort]; exact e, by rw [PyData.showable]; exact f⟩
theorem Gd.len {k W : Nat} {d : PyData} (h : Gd k W d) (a : k ≤ 60) (b : W ≤ 1000000) : d.shown.length ≤ sizeLine := by
  have w := h.wgt
  have dp := h.dep
  have l0 : d.layable0 = true := by
    show (d.canLay0 && decide (d.depth ≤ 64) && decide (d.weight ≤ 2 ^ 20)) = true
    have e : (2 : Nat) ^ 20 = 1048576 := by decide
    rw [h.lay, decide_eq_true (show d.depth ≤ 64 by omega), decide_eq_true (show d.weight ≤ 2 ^ 20 by omega)]
    rfl
  have z := shown_le13 l0 h.its
  rw [sizeLine_eq]
  omega
theorem Gd.shaped {k W : Nat} {d : PyData} (h : Gd k W d) (a : k ≤ 60) : SeqAt.shaped d = true := by
  have dp := h.dep
  show (d.canLay0 && decide (d.depth ≤ 64)) = true
  rw [h.lay, decide_eq_true (show d.depth ≤ 64 by omega)]
  rfl
/-! things of the hand layer as data -/
section
variable {K : PySem.W.Frag} {H : Hp}
def dN (ns : List Nat) : PyData := .tuple (ns.map fun n => .int ((n : Nat) : Int))
theorem dps_nats : ∀ ns : List Nat, DpAll K H (ns.map vi) (ns.map fun n => .int ((n : Nat) : Int))
  | [] => .nil
  | n :: ns => .cons (.int _) (dps_nats ns)
theorem Nats.dp {v : V} {ns : List Nat} (h : Nats K H v ns) : Dp K H v (dN ns) := by
  obtain ⟨a, e, s⟩ := h
  subst e
  exact .tup s (dps_nats ns)
theorem dps_paired {β : Type} {R : V → β → Prop} {f : β → PyData} (h : ∀ v b, R v b → Dp K H v (f b)) : ∀ {vs : List V} {bs : List β}, Paired R vs bs → DpAll K H vs (bs.map f)
  | [], [], .nil => .nil
  | _ :: _, _ :: _, .cons r p => .cons (h _ _ r) (dps_paired h p)
def dM (n : Nat) (ts : List (List Nat)) : PyData := .tuple [.int (n : Int), .tuple (ts.map dN)]
theorem Mdl.dp {v : V} {n : Nat} {ts : List (List Nat)} (h : Mdl K H v n ts) : Dp K H v (dM n ts) := by
  obtain ⟨a, u, e, s, b, vs, e2, s2, p⟩ := h
  subst e e2
  exact .tup s (.cons (.int _) (.cons (.tup s2 (dps_paired (fun _ _ z => Nats.dp z) p)) .nil))
def dS (sg : List (Str × Nat)) : PyData := .tuple (sg.map fun p => .tuple [.str p.1, .int ((p.2 : Nat) : Int)])
theorem Sig.dp {v : V} {sg : List (Str × Nat)} (h : Sig K H v sg) : Dp K H v (dS sg) := by
  obtain ⟨a, vs, e, s, p⟩ := h
  subst e
  refine .tup s (dps_paired (fun v q z => ?_) p)
  obtain ⟨b, e, s⟩ := z
  subst e
  exact .tup s (.cons (.str _) (.cons (.int _) .nil))
theorem gd_nats {ns : List Nat} (h : ∀ n ∈ ns, n ≤ 1000) (l : ns.length ≤ 36) : Gd 1 396 (dN ns) := by
  refine gd_tup (k := 0) (W := 10) (L := 36) (fun d hd => ?_) (by rw [List.length_map]; exact l)
  obtain ⟨n, hn, e⟩ := List.mem_map.mp hd
  subst e
  exact gd_int (h n hn)
theorem gd_mdl {n : Nat} {ts : List (List Nat)} (hn : n ≤ 1000) (h : ∀ t ∈ ts, (∀ k ∈ t, k ≤ 1000) ∧ t.length ≤ 36) (l : ts.length ≤ 4) : Gd 3 3178 (dM n ts) := by
  refine gd_tup (k := 2) (W := 1588) (L := 2) (fun d hd => ?_) (Nat.le_refl 2)
  rcases List.mem_cons.mp hd with e | hd
  · subst e
    exact (gd_int hn).mono (by decide) (by decide)
  · rw [List.mem_singleton.mp hd]
    refine gd_tup (k := 1) (W := 396) (L := 4) (fun d hd => ?_) (by rw [List.length_map]; exact l)
    obtain ⟨t, ht, e⟩ := List.mem_map.mp hd
    subst e
    exact gd_nats (h t ht).1 (h t ht).2
/-- x != y of the same data -/
theorem rv_neD {x y : V} {d : PyData} {k W : Nat} (hx : ∀ H1, Ex H H1 → Dp K H1 x d) (hy : ∀ H1, Ex H H1 → Dp K H1 y d) (h : Gd k W d) (a : k ≤ 60) : RV (rNeD K) x y H (.bl false) := fun H1 e Q q =>
  ⟨d, d, hx H1 e, hy H1 e, h.shaped a, h.shaped a, by rw [SeqAt.eqv_refl d h.lay]; exact q H1 (Ex.refl H1)⟩
end
end Dw
end
section
/-! dict(a tuple of pairs), the tuple told with its own object -/
namespace Dw
open PySem PySem.Spec PyProof.Rows L2 Evl
section
variable {X : Cx}
end
end Dw
end
section
/-! sets of texts, their table known well enough that they can be walked: add, set(a list), sorted -/
namespace Dw
open PySem PySem.Spec PyProof.Rows L2
/-- the text of an entry -/
def txtOf (e : Int × Value) : Str := match e.2 with | .str x _ => x | _ => Str.empty
def IsTxt (w : World) (e : Int × Value) : Prop := ∃ x tk, e.2 = Value.str x tk ∧ e.1 = hashStr w x
/-- a set at a whose members are the texts ks, each once, in the order in which they came -/
structure TxtSet (w : World) (h : Heap) (a : Addr) (ks : List Str) : Prop where
  ex : ∃ o es ep t, h.get? a = some o ∧ o.ExactSet ∧ o.data = .set es ep t ∧ (∀ e ∈ es.toList, IsTxt w e) ∧ (es.toList.map txtOf).Perm ks ∧ t.fits es.size = true ∧ Ris t.place.toList ∧ (w.params.followText "set-order" = true ∨ t.led = true)
  nd : ks.Nodup
  few : ks.length < scanBound
section
variable {P : Program} {w : World} {A : Around} {E : Value → Shared → Prop} {s : Shared} {a : Addr} {ks : List Str}
theorem TxtSet.at {h h' : Heap} (T : TxtSet w h a ks) (same : ∀ o, h.get? a = some o → h'.get? a = some o) : TxtSet w h' a ks := by
  obtain ⟨o, es, ep, t, at_, rest⟩ := T.ex
  exact ⟨⟨o, es, ep, t, same o at_, rest⟩, T.nd, T.few⟩
end
end Dw
end
section
namespace Dw
open PySem PySem.Spec PyProof.Rows L2
section
variable {P : Program} {w : World} {A : Around} {E : Value → Shared → Prop} {s : Shared}
end
end Dw
end
section
/-! rules over sets of texts: set(a list), sorted(the set) -/
namespace Dw
open PySem PySem.Spec PyProof.Rows L2
section
variable {P : Program} {w : World} {A : Around} {E : Value → Shared → Prop} {s : Shared} {a : Addr} {ks : List Str}
end
section
variable {X : Cx}
end
end Dw
end
section
/-! comprehensions whose items are told by what holds of them (new things at each turn) -/
namespace Dw
open PySem PySem.Spec PyProof.Rows L2 Evl
theorem ifT {a b : Prop} (h : a) : if true = true then a else b := h
theorem ifF {a b : Prop} (h : b) : if false = true then a else b := h
/-- a new list, by what holds of its items -/
def EvLP (te : TE) (σ : L2.St) (H : Hp) (R : List V → Hp → Prop) : Prop := ∀ H1, Ex H H1 → ∀ Q : VK, (∀ p ws H2, H1 p = none → Ex H1 H2 → H2 p = some (.lst ws) → R ws H2 → Q (.ref p) H2) → te σ H1 Q
/-- all that is no list stays -/
def EN (H H' : Hp) : Prop := ∀ a u, (∀ xs, u ≠ .lst xs) → H a = some u → H' a = some u
theorem EN.refl {H : Hp} : EN H H := fun _ _ _ h => h
theorem EN.trans {H H1 H2 : Hp} (a : EN H H1) (b : EN H1 H2) : EN H H2 := fun x u n h => b x u n (a x u n h)
theorem EN.of {H H' : Hp} (e : Evl.Ex H H') : EN H H' := fun a u _ h => e a u h
theorem EN.upd {H H' : Hp} {l : Addr} {xs ys : List V} (e : EN H H') (h : H' l = some (.lst xs)) : EN H (upd H' l (.lst ys)) := fun a u n q => by
  have q2 := e a u n q
  have ne : a ≠ l := fun z => by
    rw [z, h] at q2
    exact n xs (Option.some.inj q2).symm
  rw [upd_ne ne]
  exact q2
theorem EN.et {K : PySem.W.Frag} {H H' : Hp} (e : EN H H') : ET K H H' := fun a xs q => by
  rcases q with (q | ⟨o, q⟩) | q
  · exact .inl (.inl (e _ _ (fun _ z => by cases z) q))
  · exact .inl (.inr ⟨o, e _ _ (fun _ z => by cases z) q⟩)
  · exact .inr q
/-- what holds of a thing is told by what is no list -/
def StbB {β : Type} (B : V → β → Hp → Prop) : Prop := ∀ v b H H', EN H H' → B v b H → B v b H'
section
variable {K : PySem.W.Frag} {σ : L2.St} {H H' : Hp} {ta tb te : TE} {t : TT} {x y z v : V} {P : V → Hp → Prop} {D : Ends} {tu tz : TS} {g : TG} {R : List V → Hp → Prop}
theorem EvLP.mono (e : Ex H H') (h : EvLP te σ H R) : EvLP te σ H' R := fun H1 a Q q => h H1 (e.trans a) Q q
theorem EvLP.imp {R' : List V → Hp → Prop} (h : EvLP te σ H R) (i : ∀ ws H', Ex H H' → R ws H' → R' ws H') : EvLP te σ H R' := fun H1 e Q q => h H1 e Q fun p ws H2 np e2 hp r => q p ws H2 np e2 hp (i ws H2 (e.trans e2) r)
theorem do_elp {Q : VK} (h : EvLP te σ H R) (k : ∀ p ws H1, H p = none → Ex H H1 → H1 p = some (.lst ws) → R ws H1 → Q (.ref p) H1) : te σ H Q := h H (Ex.refl H) Q k
theorem s_asgLP {i : Nat} (h : EvLP te σ H R) (k : ∀ p ws H1, H p = none → Ex H H1 → H1 p = some (.lst ws) → R ws H1 → D.nx (σ.set i (some (.ref p))) H1) : tAsg te (gName i) D σ H := h H (Ex.refl H) _ k
theorem paired_snoc' {α β : Type} {R : α → β → Prop} {x : α} {y : β} (r : R x y) {xs : List α} {ys : List β} (h : Paired R xs ys) : Paired R (xs ++ [x]) (ys ++ [y]) := Dw.paired_snoc (R := R) r h
theorem paired_at {α β : Type} {R : α → β → Prop} : ∀ {xs : List α} {ys : List β} {i : Nat} {x : α}, Paired R xs ys → xs[i]? = some x → ∃ y, ys[i]? = some y ∧ R x y
  | _, _, _, _, .nil, h => by simp at h
  | _, _, 0, _, .cons a _, h => by
    have e := Option.some.inj h
    subst e
    exact ⟨_, rfl, a⟩
  | _, _, i + 1, _, .cons _ b, h => by
    obtain ⟨y, e, r⟩ := paired_at (i := i) b h
    exact ⟨y, e, r⟩
theorem paired_app {α β : Type} {R : α → β → Prop} {xs xs2 : List α} {ys ys2 : List β} (h : Paired R xs ys) (h2 : Paired R xs2 ys2) : Paired R (xs ++ xs2) (ys ++ ys2) := by
  induction h with
  | nil => exact h2
  | cons a r ih => exact .cons a ih
theorem paired_map {α β γ : Type} {R : α → β → Prop} {S : α → γ → Prop} {f : β → γ} (h : ∀ a b, R a b → S a (f b)) : ∀ {xs : List α} {ys : List β}, Paired R xs ys → Paired S xs (ys.map f)
  | _, _, .nil => .nil
  | _, _, .cons a b => .cons (h _ _ a) (paired_map h b)
theorem filt_step {n : Nat} {f : Nat → Bool} : (List.range (n + 1)).filter f = (List.range n).filter f ++ if f n = true then [n] else [] := by
  rw [List.range_succ, List.filter_append]
  congr 1
  cases h : f n
  · rw [List.filter_cons_of_neg (by rw [h]; decide), List.filter_nil]; rfl
  · rw [List.filter_cons_of_pos h, List.filter_nil]; rfl
theorem filt_len (n : Nat) (f : Nat → Bool) : ((List.range n).filter f).length ≤ n := by
  have := List.length_filter_le f (List.range n)
  rw [List.length_range] at this
  exact this
/-- a comprehension by what its items keep -/
theorem elp_lc {J : It} {n : Nat} {G : Hp → Prop} {Y : Nat → Hp → V → Hp → Prop} {wi : TI} {tt : TT} {vs : List Nat} (w : Walk J n G Y) (hw0 : ∀ H0, Ex H H0 → ∀ R : It → Hp → Prop, (∀ H1, Ex H0 H1 → R J H1) → wi σ H0 R) (hG : ∀ H1, Ex H H1 → G H1) (hn : n ≤ 40000)
    (f : Nat → Bool) (B : V → Nat → Hp → Prop) (hB : StbB B)
    (hs : ∀ i x H1 H2, i < n → Ex H H1 → Y i H1 x H2 → Ex H1 H2 ∧ ∀ Φ : L2.St → Hp → Prop, (∀ σ2, wipe σ2 vs = wipe σ vs → EvT tt σ2 H2 (f i) → (f i = true → EvP te σ2 H2 (fun v H' => B v i H')) → Φ σ2 H2) → g x (wipe σ vs) H2 Φ) :
    EvLP (tLc wi g tt te vs) σ H (fun ws H' => Paired (fun v i => B v i H') ws ((List.range n).filter f)) := by
  intro H0 e0 Q q
  refine hw0 H0 e0 _ fun H1 e1 Dl nD => lc_it w (fun i H' => Ex H1 H' ∧ ∃ ws, H' Dl = some (.lst ws) ∧ Paired (fun v i => B v i H') ws ((List.range i).filter f)) ⟨Ex.new nD, [], upd_same, .nil⟩ (fun i H' _ ⟨e, _⟩ => hG H' ((e0.trans e1).trans e)) (fun i x H2 H3 hi ⟨e2, ws, hD, pw⟩ y => ?_) (fun H2 ⟨e2, ws, hD, pw⟩ => q Dl ws H2 (fresh_back e1 nD) (e1.trans e2) hD pw)
  have e02 := (e0.trans e1).trans e2
  obtain ⟨e3, go⟩ := hs i x H2 H3 hi e02 y
  refine go _ fun σ2 hw ht he => ⟨hw, ht H3 (Ex.refl _) _ fun H4 e4 => ?_⟩
  have e24 := e3.trans e4
  cases hf : f i with
  | true =>
    refine ifT (he hf H4 e4 _ fun v H5 e5 bv => ?_)
    have hD5 := (e24.trans e5) _ _ hD
    have lw : ws.length ≤ i := by rw [paired_len pw]; exact filt_len i f
    refine ⟨ws, hD5, sz_lt (by omega), (e2.trans (e24.trans e5)).mut nD, ws ++ [v], upd_same, ?_⟩
    rw [filt_step, hf, if_pos rfl]
    have et : EN H5 (upd H5 Dl (.lst (ws ++ [v]))) := EN.refl.upd hD5
    have pw2 : Paired (fun z i => B z i (upd H5 Dl (.lst (ws ++ [v])))) ws ((List.range i).filter f) := paired_imp (fun a b r => hB a b _ _ (EN.trans (EN.of (e24.trans e5)) et) r) pw
    exact paired_snoc' (xs := ws) (x := v) (y := i) (hB _ _ _ _ et bv) pw2
  | false =>
    refine ifF ⟨e2.trans e24, ws, e24 _ _ hD, ?_⟩
    rw [filt_step, hf]
    show Paired _ ws ((List.range i).filter f ++ [])
    rw [List.append_nil]
    exact paired_imp (fun a b r => hB a b _ _ (EN.of e24) r) pw
theorem range_all (n : Nat) : (List.range n).filter (fun _ => true) = List.range n := List.filter_eq_self.mpr fun _ _ => rfl
/-- over a list, one name -/
theorem elp_lcL {a : Addr} {xs : List V} {tl : TE} {tt : TT} {j : Nat} {vs : List Nat} (h : Ev tl σ H (.ref a)) (hx : SqL K H a xs) (hn : xs.length ≤ 40000) (f : Nat → Bool) (B : V → Nat → Hp → Prop) (hB : StbB B) (hwp : ∀ x, wipe ((wipe σ vs).set j (some x)) vs = wipe σ vs)
    (hs : ∀ i x H1, Ex H H1 → xs[i]? = some x → EvT tt ((wipe σ vs).set j (some x)) H1 (f i) ∧ (f i = true → EvP te ((wipe σ vs).set j (some x)) H1 (fun v H' => B v i H'))) :
    EvLP (tLc (iList K tl) (gName j) tt te vs) σ H (fun ws H' => Paired (fun v i => B v i H') ws ((List.range xs.length).filter f)) :=
  elp_lc (walk_list (K := K) (a := a) (xs := xs)) (fun H0 e0 R r => h H0 e0 _ fun H1 e1 => ⟨a, rfl, ⟨xs, ex_l (e0.trans e1) hx⟩, r H1 e1⟩) (fun H1 e1 => ex_l e1 hx) hn f B hB fun i x H1 H2 hi e y => by
    obtain ⟨rfl, hxi⟩ := y
    exact ⟨Ex.refl _, fun Φ k => k _ (hwp x) (hs i x _ e hxi).1 (hs i x _ e hxi).2⟩
theorem elp_lcR {ta : TA} {n : Nat} {tt : TT} {j : Nat} {vs : List Nat} (h : EvA ta σ H [vi n]) (hn : n ≤ 40000) (f : Nat → Bool) (B : V → Nat → Hp → Prop) (hB : StbB B) (hwp : ∀ x, wipe ((wipe σ vs).set j (some x)) vs = wipe σ vs)
    (hs : ∀ i H1, i < n → Ex H H1 → EvT tt ((wipe σ vs).set j (some (vi i))) H1 (f i) ∧ (f i = true → EvP te ((wipe σ vs).set j (some (vi i))) H1 (fun v H' => B v i H'))) :
    EvLP (tLc (iRng1 ta) (gName j) tt te vs) σ H (fun ws H' => Paired (fun v i => B v i H') ws ((List.range n).filter f)) :=
  elp_lc (walk_range (n := n)) (fun H0 e0 R r => w_rng h hn H0 e0 R r) (fun _ _ => trivial) hn f B hB fun i x H1 H2 hi e y => by
    obtain ⟨rfl, hxi⟩ := y
    have e0 : x = vi i := hxi.trans (by show V.int _ = V.int _; rw [Int.zero_add])
    subst e0
    exact ⟨Ex.refl _, fun Φ k => k _ (hwp _) (hs i _ hi e).1 (hs i _ hi e).2⟩
/-- of two fors: a list, then a range (or what is walked in the like way) -/
theorem elp_lc2 {a : Addr} {xs : List V} {tl : TE} {ta : TA} {m j j1 : Nat} {vs vs1 : List Nat} (h : Ev tl σ H (.ref a)) (hx : SqL K H a xs) (h1 : ∀ x H1, Ex H H1 → EvA ta ((wipe σ vs).set j (some x)) H1 [vi m]) (hn : xs.length ≤ 10000) (hm : m ≤ 9)
    (B : V → Nat × Nat → Hp → Prop) (hB : StbB B) (hw : ∀ x, wipe ((wipe σ vs).set j (some x)) vs = wipe σ vs) (hw1 : ∀ x y, wipe ((wipe ((wipe σ vs).set j (some x)) vs1).set j1 (some y)) vs1 = wipe ((wipe σ vs).set j (some x)) vs1)
    (he : ∀ i x k H1, Ex H H1 → xs[i]? = some x → k < m → EvP te ((wipe ((wipe σ vs).set j (some x)) vs1).set j1 (some (vi k))) H1 (fun v H' => B v (i, k) H')) :
    EvLP (tLc2 (iList K tl) (gName j) tYes (iRng1 ta) (gName j1) tYes te vs vs1) σ H (fun ws H' => Paired (fun v p => B v p H') ws ((List.range xs.length).flatMap fun i => (List.range m).map fun k => (i, k))) := by
  intro H0 e Q q
  refine h H0 e _ fun H1 e1 => ⟨a, rfl, ⟨xs, ex_l (e.trans e1) hx⟩, fun Dl nD => ?_⟩
  have e01 : Ex H H1 := e.trans e1
  let outer : Nat → List (Nat × Nat) := fun i => (List.range i).flatMap fun i => (List.range m).map fun k => (i, k)
  have lenO : ∀ i, (outer i).length = i * m := by
    intro i
    induction i with
    | zero => show (0 : Nat) = 0 * m; rw [Nat.zero_mul]
    | succ i ih =>
      show ((List.range (i + 1)).flatMap _).length = _
      rw [List.range_succ, List.flatMap_append, List.length_append]
      have e3 : ((List.range i).flatMap fun i => (List.range m).map fun k => (i, k)).length = i * m := ih
      rw [e3, List.flatMap_singleton, List.length_map, List.length_range, Nat.add_mul, Nat.one_mul]
  refine ⟨fun i r H' => r = xs.length - i ∧ i ≤ xs.length ∧ Ex H1 H' ∧ ∃ ws, H' Dl = some (.lst ws) ∧ Paired (fun v p => B v p H') ws (outer i), ⟨_, rfl, Nat.zero_le _, Ex.new nD, [], upd_same, .nil⟩, ?_⟩
  rintro i r H2 ⟨rfl, hi, e2, ws, hD, pw⟩
  by_cases hlt : i < xs.length
  · refine .inr ⟨⟨xs, xs[i], ex_l (e01.trans e2) hx, List.getElem?_eq_getElem hlt⟩, fun H' => Ex H1 H' ∧ ∃ ws, H' Dl = some (.lst ws) ∧ Paired (fun v p => B v p H') ws (outer (i + 1)), fun H' ⟨p1, p2⟩ => ⟨_, by omega, rfl, hlt, p1, p2⟩, fun x H3 yl => ?_⟩
    obtain ⟨rfl, hxi⟩ := yl
    have hxi' := hxi xs (ex_l (e01.trans e2) hx)
    refine ⟨hw x, et_yes H3 (Ex.refl _) _ fun H4 e4 => ?_⟩
    refine ifT ?_
    have e14 : Ex H1 H4 := e2.trans e4
    refine w_rng (h1 x H4 (e01.trans e14)) (by omega) H4 (Ex.refl _) _ fun H5 e5 => ?_
    have e15 : Ex H1 H5 := e14.trans e5
    have e35 := e4.trans e5
    refine ⟨fun k r H' => r = m - k ∧ k ≤ m ∧ Ex H1 H' ∧ ∃ ws, H' Dl = some (.lst ws) ∧ Paired (fun v p => B v p H') ws (outer i ++ (List.range k).map fun k => (i, k)), ⟨_, rfl, Nat.zero_le _, e15, ws, e35 _ _ hD, by
      show Paired _ ws (outer i ++ [])
      rw [List.append_nil]
      exact paired_imp (fun a b r => hB a b _ _ (EN.of e35) r) pw⟩, ?_⟩
    rintro k r H6 ⟨rfl, hk, e6, us, hD6, pu⟩
    by_cases klt : k < m
    · refine .inr ⟨(walk_range (n := m)).goes k H6 klt trivial, fun H' => Ex H1 H' ∧ ∃ ws, H' Dl = some (.lst ws) ∧ Paired (fun v p => B v p H') ws (outer i ++ (List.range (k + 1)).map fun k => (i, k)), fun H' ⟨p1, p2⟩ => ⟨_, by omega, rfl, klt, p1, p2⟩, fun y H7 yl => ?_⟩
      obtain ⟨rfl, hy⟩ := (walk_range (n := m)).yields k H6 y H7 klt trivial yl
      have ey : y = vi k := hy.trans (by show V.int _ = V.int _; rw [Int.zero_add])
      subst ey
      refine ⟨hw1 x _, et_yes H7 (Ex.refl _) _ fun H8 e8 => ?_⟩
      refine ifT ?_
      have e18 : Ex H1 H8 := e6.trans e8
      refine he i x k H8 (e01.trans e18) hxi' klt H8 (Ex.refl _) _ fun v H9 e9 bv => ?_
      have hD9 := (e8.trans e9) _ _ hD6
      refine ⟨us, hD9, ?_, (e18.trans e9).mut nD, us ++ [v], upd_same, ?_⟩
      · rw [paired_len pu, List.length_append, lenO, List.length_map, List.length_range]
        have b1 : i * m ≤ 10000 * 9 := Nat.mul_le_mul (by omega) hm
        exact sz_lt (by omega)
      · rw [List.range_succ, List.map_append, ← List.append_assoc]
        have et : EN H9 (upd H9 Dl (.lst (us ++ [v]))) := EN.refl.upd hD9
        have pu2 : Paired (fun z p => B z p (upd H9 Dl (.lst (us ++ [v])))) us (outer i ++ (List.range k).map fun k => (i, k)) := paired_imp (fun a b r => hB a b _ _ (EN.trans (EN.of (e8.trans e9)) et) r) pu
        exact paired_snoc' (xs := us) (x := v) (y := (i, k)) (hB _ _ _ _ et bv) pu2
    · have ek : k = m := by omega
      subst ek
      refine .inl ⟨(walk_range (n := k)).stops H6 trivial, e6, us, hD6, ?_⟩
      have : outer (i + 1) = outer i ++ (List.range k).map fun k => (i, k) := by
        show (List.range (i + 1)).flatMap _ = _
        rw [List.range_succ, List.flatMap_append, List.flatMap_singleton]
      rw [this]
      exact pu
  · have ei : i = xs.length := by omega
    subst ei
    exact .inl ⟨⟨xs, ex_l (e01.trans e2) hx, Nat.le_refl _⟩, q Dl ws H2 (fresh_back e1 nD) (e1.trans e2) hD pw⟩
end
end Dw
end
section
/-! tuples by what they hold: written, joined, cut; equal lists of numbers -/
namespace Dw
open PySem PySem.Spec PyProof.Rows L2 Evl
theorem op_catAK {X : Cx} (K : PySem.W.Frag) (h : X.K = K := by rfl) : OpR X (binaryOp .Add) (rCatA K) := by
  subst h
  exact op_catA
def TV (K : PySem.W.Frag) (H : Hp) (v : V) (xs : List V) : Prop := ∃ a, v = .ref a ∧ SqT K H a xs
section
variable {K : PySem.W.Frag} {σ : L2.St} {H H' : Hp} {ta tb te : TE} {t : TT} {x y z v : V} {P : V → Hp → Prop} {D : Ends} {tu tz : TS} {g : TG}
theorem TV.ex {xs : List V} (e : Ex H H') (h : TV K H v xs) : TV K H' v xs := let ⟨a, q, s⟩ := h; ⟨a, q, ex_t e s⟩
theorem TV.et {xs : List V} (e : ET K H H') (h : TV K H v xs) : TV K H' v xs := let ⟨a, q, s⟩ := h; ⟨a, q, e _ _ s⟩
theorem tv_ev {xs : List V} {a : Addr} (h : Ev te σ H (.ref a)) (s : SqT K H a xs) : EvP te σ H (fun v H' => TV K H' v xs) := ep_ev h fun _ e => ⟨a, rfl, ex_t e s⟩
theorem tv_cat {xs ys : List V} (ha : EvP ta σ H (fun v H' => TV K H' v xs)) (hb : EvP tb σ H (fun v H' => TV K H' v ys)) (hl : xs.length + ys.length ≤ 100000) : EvP (tOp (rCatA K) ta tb) σ H (fun v H' => TV K H' v (xs ++ ys)) := fun H1 e1 Q q =>
  ha H1 e1 _ fun v H2 e2 hv => hb H2 (e1.trans e2) _ fun u H3 e3 hu => by
    obtain ⟨a, rfl, sa⟩ := hv.ex e3
    obtain ⟨b, rfl, sb⟩ := hu
    refine ⟨a, b, xs, ys, rfl, rfl, sa, sb, sz_of hl, fun z => ?_, fun _ z => ?_, fun _ _ p np => ?_⟩
    · subst z
      exact q _ H3 (e2.trans e3) ⟨b, rfl, sb⟩
    · subst z
      rw [List.append_nil] at q
      exact q _ H3 (e2.trans e3) ⟨a, rfl, sa⟩
    · exact q _ _ ((e2.trans e3).trans (Ex.new np)) ⟨p, rfl, st_of upd_same⟩
theorem tv_tup {ta : TA} {xs : List V} (h : EvA ta σ H xs) (l : xs.length ≤ 100000) : EvP (tTup ta) σ H (fun v H' => TV K H' v xs) := fun H1 e1 Q q => eu_tup h l H1 e1 _ fun p H2 np e2 hp => q _ H2 e2 ⟨p, rfl, st_of hp⟩
theorem tv_is {xs ys : List V} (h : EvP te σ H (fun v H' => TV K H' v xs)) (e : xs = ys) : EvP te σ H (fun v H' => TV K H' v ys) := e ▸ h
theorem tv_nats {ns : List Nat} (h : EvP te σ H (fun v H' => TV K H' v (ns.map vi))) : EvP te σ H (fun v H' => Nats K H' v ns) := h
/-! equality of lists of numbers as data -/
end
end Dw
namespace Dw
open PySem PySem.Spec PyProof.Rows L2 Evl
section
variable {K : PySem.W.Frag} {σ : L2.St} {H H' : Hp} {ta tb te : TE} {t : TT} {x y z v : V} {P R2 : V → Hp → Prop} {D : Ends} {tu tz : TS} {g : TG} {R : List V → Hp → Prop}
end
section
variable {K : PySem.W.Frag} {σ : L2.St} {H : Hp} {te tl : TE} {D : Ends} {tu tz : TS} {g : TG}
end
end Dw
end
section
/-! max of a tuple of numbers -/
namespace Dw
open PySem PySem.Spec PyProof.Rows L2 Evl PySem.W
theorem maxOf_ge : ∀ (xs : List Int) (x : Int), (∀ y ∈ x :: xs, y ≤ maxOf x xs) ∧ maxOf x xs ∈ x :: xs
  | [], x => ⟨fun y hy => by rw [List.mem_singleton.mp hy]; exact Int.le_refl _, List.mem_cons_self ..⟩
  | z :: xs, x => by
    have e : maxOf x (z :: xs) = maxOf (if x < z then z else x) xs := by
      unfold maxOf
      rw [List.foldl_cons]
      congr 1
      show (if decide (x < z) = true then z else x) = _
      by_cases h : x < z
      · rw [decide_eq_true h, if_pos rfl, if_pos h]
      · rw [decide_eq_false h, if_neg Bool.false_ne_true, if_neg h]
    obtain ⟨a, b⟩ := maxOf_ge xs (if x < z then z else x)
    rw [e]
    have c := a _ (List.mem_cons_self ..)
    refine ⟨fun y hy => ?_, ?_⟩
    · rcases List.mem_cons.mp hy with rfl | hy
      · split at c
        · rename_i h; rw [if_pos h]; omega
        · rename_i h; rw [if_neg h]; exact c
      · rcases List.mem_cons.mp hy with rfl | hy
        · split at c
          · rename_i h; rw [if_pos h]; exact c
          · rename_i h; rw [if_neg h]; omega
        · exact a y (List.mem_cons_of_mem _ hy)
    · rcases List.mem_cons.mp b with b | b
      · rw [b]
        split
        · exact List.mem_cons_of_mem _ (List.mem_cons_self ..)
        · exact List.mem_cons_self ..
      · exact List.mem_cons_of_mem _ (List.mem_cons_of_mem _ b)
def rMaxT (K : PySem.W.Frag) : List V → Hp → VK → Prop := fun vs H Q => ∃ (a : Addr) (ns : List Int), vs = [V.ref a] ∧ SqT K H a (ns.map V.int) ∧ 0 < ns.length ∧ ∀ m, m ∈ ns → (∀ y, y ∈ ns → y ≤ m) → Q (.int m) H
theorem cr_maxT {X : Cx} {k : Nat} (hc : X.calm = true) (hr : Room k X.A) : CallR X (.builtin "max") (rMaxT X.K) := by
  intro pins s σ H vs us Q I r h
  obtain ⟨a, ns, rfl, hs, hne, q⟩ := h
  obtain ⟨its, rv, hl, _⟩ := I.tuple hs
  rw [Vals.ref1 r]
  cases ns with
  | nil => exact absurd hne (Nat.lt_irrefl 0)
  | cons x xs =>
    have hi : IntsAre its.toArray.toList (x :: xs) := by rw [List.toList_toArray]; exact ints_of rv
    have hu := hr.units
    have ho : HoldAll s.heap its.toArray.toList (x :: xs) := ⟨[], ints_readAll _ hi⟩
    refine max_tuple_datum (α := Int) (I.ok.hd hc) hl ho (by show X.A.units + 1 + 0 < _; omega) fun i v h' tk hv ho2 hk => ?_
    obtain ⟨a2, b2⟩ := maxOf_ge xs x
    obtain ⟨as, rd⟩ := ho2
    have rd' : Reads h' v (.int (maxOf x xs)) as := rd
    cases rd' with
    | int _ t => exact ⟨.int _, H, I.kept hk, ⟨t, rfl⟩, q _ b2 a2⟩
end Dw
end
section
/-! the least worth, begin by begin -/
namespace M25
open M20
theorem g_mem {l : List Nat} {k : Nat} (h : k < l.length) : g l k ∈ l := List.mem_iff_getElem?.mpr ⟨k, g_eq h⟩
end M25
end
section
/-! row by row, table by table, from behind -/
namespace M25
open M20
theorem need_max : ∀ {args : List Nat} {m : Nat}, m ∈ args → (∀ k ∈ args, k ≤ m) → need args = m + 1
  | [], _, h, _ => nomatch h
  | a :: r, m, h, le => by
    have u := need_le (args := a :: r) (m := m + 1) fun k hk => by have := le k hk; omega
    have l := need_lt m h
    omega
theorem rows_len' (n : Nat) : ∀ p, (rows n p).length = n ^ p
  | 0 => rfl
  | p + 1 => by
    show ((rows n p).flatMap _).length = _
    rw [List.length_flatMap, Nat.pow_succ]
    have : (rows n p).map (fun r => ((List.range n).map fun k => r ++ [k]).length) = List.replicate (rows n p).length n := by
      rw [List.eq_replicate_iff]
      refine ⟨by rw [List.length_map], fun b hb => ?_⟩
      obtain ⟨r, _, rfl⟩ := List.mem_map.mp hb
      simp
    rw [this, List.sum_replicate_nat, rows_len' n p]
end M25
end
section
/-! sorted lists: one for the same members -/
namespace M25
open M20
def ia (a : List Nat) : List Int := a.map fun k => ((k : Nat) : Int)
end M25
namespace M25
open M20
theorem allc_bgs (n k : Nat) : Bgs n k (allc n k [[]]) := by
  have := (start_good n).bgs.allc (k := k)
  rw [show ln [[]] = 0 from rfl, Nat.zero_add] at this
  exact this
theorem allc_few {n k : Nat} (h : k ≤ n) (n6 : n ≤ 6) : (allc n k [[]]).length ≤ 720 := Nat.le_trans (bgs_few (allc_bgs n k) h) (fact6 n6)
end M25
end
section
/-! sets of numbers: set(a list), known well enough that they can be sorted -/
namespace Dw
open PySem PySem.Spec PyProof.Rows L2
/-- a set at a of just the numbers in xs -/
def ISet (w : World) (h : Heap) (a : Addr) (xs : List Int) : Prop := ∃ n, n ≤ xs.length ∧ SetR w h a (fun k => decide (k ∈ xs)) n
theorem ISet.at {w : World} {h h' : Heap} {a : Addr} {xs : List Int} (T : ISet w h a xs) (k : ∀ o, h.get? a = some o → h'.get? a = some o) : ISet w h' a xs := let ⟨n, l, r⟩ := T; ⟨n, l, r.at k⟩
section
variable {P : Program} {w : World} {A : Around} {E : Value → Shared → Prop} {s : Shared}
end
section
variable {X : Cx}
end
end Dw
end
section
/-! sorted(a list of tuples of numbers), of any length: as mergeSort lays it by the order of lists -/
namespace Dw
open PySem PySem.Spec PyProof.Rows L2 Evl PySem.W
end Dw
end
section
/-! readings of sorted(..) and set(..) over new lists -/
namespace Dw
open PySem PySem.Spec PyProof.Rows L2 Evl M25
section
variable {K : PySem.W.Frag} {σ : L2.St} {H H' : Hp} {te : TE} {w : World}
/-- a list and a new list -/
theorem elp_cat {ta tb : TE} {R : List V → Hp → Prop} {a : Addr} {xs : List V} (ha : Ev ta σ H (.ref a)) (hx : H a = some (.lst xs)) (hb : EvLP tb σ H R) (hz : ∀ ws H', R ws H' → xs.length + ws.length ≤ 100000) (st : ∀ ws H H', Ex H H' → R ws H → R ws H') : EvLP (tOp rCat ta tb) σ H (fun us H' => ∃ ws, us = xs ++ ws ∧ R ws H') := fun H1 e Q q =>
  do_op (ha H1 e _ fun H2 e2 => hb H2 (e.trans e2) _ fun p ws H3 np e3 hp r => ⟨a, p, xs, ws, rfl, rfl, e3 _ _ (e2 _ _ (e _ _ hx)), hp, sz_of (hz ws H3 r), fun l nl => q l _ _ (fresh_back (e2.trans e3) nl) ((e2.trans e3).trans (Ex.new nl)) upd_same ⟨ws, rfl, st _ _ _ (Ex.new nl) r⟩⟩)
end
end Dw
namespace Dw
open PySem PySem.Spec PyProof.Rows L2 Evl M25
section
variable {K : PySem.W.Frag} {σ : L2.St} {H H' : Hp} {te ta tb : TE} {w : World}
def dL (ns : List Nat) : PyData := .list (ns.map fun n => .int ((n : Nat) : Int))
theorem gd_dL {ns : List Nat} (h : ∀ k ∈ ns, k ≤ 1000) (l : ns.length ≤ 36) : Gd 1 396 (dL ns) := gd_lst (k := 0) (W := 10) (L := 36) (fun d hd => by
  obtain ⟨n, hn, rfl⟩ := List.mem_map.mp hd
  exact gd_int (h n hn)) (by rw [List.length_map]; exact l)
end
end Dw
end
section
/-! sorted(a list of things that read as data), of any length -/
namespace Dw
open PySem PySem.Spec PyProof.Rows L2 Evl PySem.W M25
def leD (p q : V × PyData) : Bool := dataLe false (fun p : V × PyData => p.2) p q
def rSortD (K : PySem.W.Frag) : List V → Hp → VK → Prop := fun vs H Q => ∃ (a : Addr) (ps : List (V × PyData)), vs = [.ref a] ∧ SqL K H a (ps.map (·.1)) ∧ (∀ p ∈ ps, Dp K H p.1 p.2) ∧ AllAlike (ps.map (·.2)) ∧ Sortable (ps.map (·.2)) ∧ (∀ p ∈ ps, p.2.depth ≤ 40) ∧
  ∀ l, H l = none → Q (.ref l) (upd H l (.lst ((ps.mergeSort leD).map (·.1))))
theorem eachD_vals {X : Cx} {pins : List (Addr × Obj)} {σ : L2.St} {H : Hp} {s : Shared} (I : Inv X pins σ H s) : ∀ {ps : List (V × PyData)} {vs : List Value}, Vals (ps.map (·.1)) vs → (∀ p ∈ ps, Dp X.K H p.1 p.2) →
    EachIs (fun v (p : V × PyData) => RelV p.1 v) vs ps ∧ EachIs (fun v (p : V × PyData) => ∃ as, Reads s.heap v p.2 as) vs ps
  | [], _, .nil, _ => ⟨.nil, .nil⟩
  | p :: ps, _, .cons r rs, h => by
    obtain ⟨a, b⟩ := eachD_vals I (ps := ps) rs fun q hq => h q (List.mem_cons_of_mem _ hq)
    exact ⟨.cons r a, .cons (Dp.reads I _ _ _ (h p (List.mem_cons_self ..)) r) b⟩
theorem eachD_back : ∀ {ps : List (V × PyData)} {vs : List Value}, EachIs (fun v (p : V × PyData) => RelV p.1 v) vs ps → Vals (ps.map (·.1)) vs
  | [], _, .nil => .nil
  | p :: ps, _, .cons r rs => .cons r (eachD_back rs)
theorem cr_sortD {X : Cx} {k : Nat} (hr : Room k X.A) : CallR X (.builtin "sorted") (rSortD X.K) := by
  intro pins s σ H vs us Q I r h
  obtain ⟨a, ps, rfl, hs, hd, hal, hso, hdp, q⟩ := h
  obtain ⟨its, rv, hl, hz⟩ := I.list hs
  rw [Vals.ref1 r]
  obtain ⟨ea, eb⟩ := eachD_vals I rv hd
  have hu := hr.un
  refine sorted_data (enc := fun p : V × PyData => p.2) (bs := ps) hl.isList ea eb hal hso (by rw [List.length_map] at hz; exact hz) (fun b hb => ?_) fun out lo eo => ?_
  · have := hdp b hb
    show X.A.units + 2 + b.2.depth < cLine
    omega
  · obtain ⟨ep, he'⟩ := PyProof.Rows.sortedAll_at s.heap its (List.toArray out)
    have hlen : ((ps.mergeSort leD).map (·.1)).length ≤ sizeLine := by
      rw [List.length_map, List.length_mergeSort]
      rw [List.length_map] at hz
      exact hz
    exact ⟨.ref _, upd H (s.heap.objs.size + 1) (.lst ((ps.mergeSort leD).map (·.1))), I.laid (t' := s.toks) (fun _ _ => PyProof.Rows.sortedAll_old) (Nat.le_succ _) ⟨hlen, out, ep, eachD_back eo, he'⟩, rfl, q _ (I.hok.fresh (Nat.le_succ _))⟩
end Dw
end
section
/-! a tuple turned about, t[::-1]; a list made longer by a tuple -/
namespace Dw
open PySem PySem.Spec PyProof.Rows L2
section
variable {P : Program} {w : World} {A : Around} {E : Value → Shared → Prop} {s : Shared}
end
section
variable {X : Cx}
end
end Dw
end
section
/-! dict(zip(a, b)), a and b lists or tuples -/
namespace Dw
open PySem PySem.Spec PyProof.Rows L2 Evl
section
variable {prog : Program} {w : World} {A : Around} {E : Value → Shared → Prop} {s : Shared} {z TI TO T p q : Addr} {F G : List Addr} {n m i : Nat} {P R : Nat → Value → Prop} {U V : Nat → Heap → Prop} {f : Bool} {oT : Obj}
end
/-- a list or a tuple, and its walker -/
def SqO (t : Bool) (h : Heap) (l : Addr) (xs : Array Value) : Prop := if t = true then h.IsTuple l xs else h.IsList l xs
def SqI (t : Bool) (it l : Addr) (xs : Array Value) (i : Nat) (h : Heap) : Prop := if t = true then h.IsTupleIter it l i ∧ h.IsTuple l xs else h.IsListIter it l i ∧ h.IsList l xs
theorem SqI.keep {t : Bool} {it l : Addr} {xs : Array Value} {i : Nat} {h h' : Heap} (x : SqI t it l xs i h) (k : ∀ b, b = it ∨ b = l → ∀ o, h.get? b = some o → h'.get? b = some o) : SqI t it l xs i h' := by
  cases t
  · exact And.intro (x.1.at fun o e => k it (.inl rfl) o e) (x.2.at fun o e => k l (.inr rfl) o e)
  · exact And.intro (x.1.at fun o e => k it (.inl rfl) o e) (x.2.at fun o e => k l (.inr rfl) o e)
theorem SqI.there {t : Bool} {it l : Addr} {xs : Array Value} {i : Nat} {h : Heap} (x : SqI t it l xs i h) : (∃ o, h.get? it = some o) ∧ ∃ o, h.get? l = some o := by
  cases t
  · obtain ⟨⟨o, a, _⟩, ⟨o2, b, _⟩⟩ := x
    exact ⟨⟨o, a⟩, ⟨o2, b⟩⟩
  · obtain ⟨⟨o, a, _⟩, ⟨o2, b, _⟩⟩ := x
    exact ⟨⟨o, a⟩, ⟨o2, b⟩⟩
/-! the expression -/
theorem SqO.lt {t : Bool} {h : Heap} {l : Addr} {xs : Array Value} (x : SqO t h l xs) : l < h.objs.size := by
  cases t
  · obtain ⟨o, e, _⟩ := (show h.IsList l xs from x)
    exact Heap.lt_size e
  · obtain ⟨o, e, _⟩ := (show h.IsTuple l xs from x)
    exact Heap.lt_size e
abbrev itOf (t : Bool) (l : Addr) : Obj := { cls := .type (if t = true then "tuple_iterator" else "list_iterator"), data := .fields #[.ref l, .int 0 0] }
theorem SqI.start {t : Bool} {h h' : Heap} {it l : Addr} {xs : Array Value} (x : SqO t h l xs) (k : ∀ b o, h.get? b = some o → h'.get? b = some o) (e : h'.get? it = some (itOf t l)) : SqI t it l xs 0 h' := by
  cases t
  · exact And.intro ⟨_, e, rfl, rfl⟩ (Heap.IsList.at (show h.IsList l xs from x) fun o q => k l o q)
  · exact And.intro ⟨_, e, rfl, rfl⟩ (Heap.IsTuple.at (show h.IsTuple l xs from x) fun o q => k l o q)
end Dw
end
section
/-! promises of new lists; comprehensions over a zip; tuple.index of texts; wider sums -/
namespace Dw
open PySem PySem.Spec PyProof.Rows L2 Evl RZ
section
variable {K : PySem.W.Frag} {σ : L2.St} {H H' : Hp} {ta tb te : TE} {t : TT} {x y z v : V} {D : Ends} {tu tz : TS} {g : TG}
theorem ev_divM {a b : Nat} (ha : Ev ta σ H (vi a)) (hb : Ev tb σ H (vi b)) (b0 : 0 < b) (lb : b ≤ 100000) : Ev (tOp (rI CDiv fun i j => .int (i / j)) ta tb) σ H (vi (a / b)) := ev_is (ev_op ha hb (rv_I ⟨by omega, by omega⟩)) (by show V.int ((a : Int) / (b : Int)) = V.int ((a / b : Nat) : Int); rw [Int.natCast_ediv])
theorem ev_modM {a b : Nat} (ha : Ev ta σ H (vi a)) (hb : Ev tb σ H (vi b)) (b0 : 0 < b) : Ev (tOp (rI (fun _ j => 0 < j) fun i j => .int (i % j)) ta tb) σ H (vi (a % b)) := ev_is (ev_op ha hb (rv_I (by show (0 : Int) < (b : Int); omega))) (by show V.int ((a : Int) % (b : Int)) = V.int ((a % b : Nat) : Int); rw [Int.natCast_emod])
theorem ev_subM {a b : Nat} (ha : Ev ta σ H (vi a)) (hb : Ev tb σ H (vi b)) (l : b ≤ a) : Ev (tOp (rI0 fun i j => .int (i - j)) ta tb) σ H (vi (a - b)) := ev_is (ev_op ha hb rv_I0) (by show V.int ((a : Int) - (b : Int)) = V.int ((a - b : Nat) : Int); congr 1; omega)
theorem ev_mulM {a b : Nat} (ha : Ev ta σ H (vi a)) (hb : Ev tb σ H (vi b)) (la : a ≤ 100000) : Ev (tOp (rI CMul fun i j => .int (i * j)) ta tb) σ H (vi (a * b)) := ev_is (ev_op ha hb (rv_I (.inl ⟨by omega, by omega⟩))) (by show V.int ((a : Int) * (b : Int)) = V.int ((a * b : Nat) : Int); rw [Int.natCast_mul])
theorem ev_addM {a b : Nat} (ha : Ev ta σ H (vi a)) (hb : Ev tb σ H (vi b)) : Ev (tOp (rI0 fun i j => .int (i + j)) ta tb) σ H (vi (a + b)) := ev_is (ev_op ha hb rv_I0) (by show V.int ((a : Int) + (b : Int)) = V.int ((a + b : Nat) : Int); rw [Int.natCast_add])
end
section
variable {X : Cx}
/-- two rules for one subscript, two for one call -/
theorem ix_or {r r' : R2} (h : IxR X r) (h' : IxR X r') : IxR X (fun x y H Q => r x y H Q ∨ r' x y H Q) := fun e1 e2 pins s σ H x y v u Q I rx ry h0 e => by
  rcases h0 with h0 | h0
  · exact h e1 e2 pins s σ H x y v u Q I rx ry h0 e
  · exact h' e1 e2 pins s σ H x y v u Q I rx ry h0 e
theorem call_or {f : Value} {r r' : List V → Hp → VK → Prop} (h : CallR X f r) (h' : CallR X f r') : CallR X f (fun xs H Q => r xs H Q ∨ r' xs H Q) := fun pins s σ H xs us Q I rx h0 => by
  rcases h0 with h0 | h0
  · exact h pins s σ H xs us Q I rx h0
  · exact h' pins s σ H xs us Q I rx h0
end
end Dw
end
section
/-! for k, (a, b) in enumerate(zip(two lists)) -/
namespace Dw
open PySem PySem.Spec PyProof.Rows L2 Evl RZ
section
variable {prog : Program} {w : World} {A : Around} {E : Value → Shared → Prop} {s : Shared}
end
/-! a turn of a zip that may use its own tuple again -/
abbrev ZipF (h : Heap) (z TI TO : Addr) (f0 f1 : Value) : Prop := h.get? z = some { cls := .type "zip", dict := none, data := .fields #[f0, f1, .bool false, .ref TI, .ref TO], slots := #[] }
section
variable {prog : Program} {w : World} {A : Around} {E : Value → Shared → Prop} {s : Shared} {z TI TO T p q : Addr} {F G : List Addr} {n m i : Nat} {P R : Nat → Value → Prop} {U V : Nat → Heap → Prop} {f0 f1 a1 a2 : Value}
/-! next of a zip, whatever its own tuple is -/
/-- what stands of a zip between two turns -/
def ZTn (z TI TO p q a b : Addr) (i : Nat) (h : Heap) : Prop := IsTupOf2 h TI (.ref p) (.ref q) ∧ (∃ x y, IsTupOf2 h TO x y) ∧ (ZipF h z TI TO .none (.bool false) ∨ ∃ T f, IsZipHeld h z TI TO T f) ∧ h.IsListIter p a i ∧ h.IsListIter q b i
end
end Dw
end
section
/-! for k, (a, b) in enumerate(zip(two lists)): the walker -/
namespace Dw
open PySem PySem.Spec PyProof.Rows L2 Evl RZ
theorem ZTn.keep {z TI TO p q a b : Addr} {i : Nat} {h h' : Heap} (st : ZTn z TI TO p q a b i h) (k : ∀ c ∈ [z, TI, TO, p, q], ∀ o, h.get? c = some o → h'.get? c = some o) : ZTn z TI TO p q a b i h' := by
  obtain ⟨c1, ⟨x, y, c2⟩, c3, c4, c5⟩ := st
  refine ⟨k _ (by simp) _ c1, ⟨x, y, k _ (by simp) _ c2⟩, ?_, c4.at fun o e => k p (by simp) o e, c5.at fun o e => k q (by simp) o e⟩
  rcases c3 with c3 | ⟨T, f, c3⟩
  · exact .inl (k _ (by simp) _ c3)
  · exact .inr ⟨T, f, k _ (by simp) _ c3⟩
theorem FpOk.new {X : Cx} {pins : List (Addr × Obj)} {H : Hp} {b T : Addr} {o : HO} (h : FpOk X pins H b) (ne : b ≠ T) : FpOk X pins (upd H T o) b := ⟨by rw [upd_ne ne]; exact h.1, h.2⟩
end Dw
end
section
/-! enumerate(zip(two lists)): the expression -/
namespace Dw
open PySem PySem.Spec PyProof.Rows L2 Evl RZ
end Dw
end
section
/-! l.extend(any tuple that is read) -/
namespace Dw
open PySem PySem.Spec PyProof.Rows L2 Evl RZ
section
variable {X : Cx}
end
end Dw
end
section
/-! [.. for k, (a, b) in enumerate(zip(two lists)) if ..] -/
namespace Dw
open PySem PySem.Spec PyProof.Rows L2 Evl RZ
section
variable {K : PySem.W.Frag} {σ : L2.St} {H H' : Hp} {te : TE} {tt : TT}
end
end Dw
end
section
/-! t.index(x), x any small data -/
namespace Dw
open PySem PySem.Spec PyProof.Rows L2 Evl RZ
theorem dps_len {K : PySem.W.Frag} {H : Hp} : ∀ {ys : List V} {ds : List PyData}, DpAll K H ys ds → ys.length = ds.length
  | _, _, .nil => rfl
  | _, _, .cons _ t => by rw [List.length_cons, List.length_cons, dps_len t]
end Dw
end
section
namespace Dw
open PySem PySem.Spec PyProof.Rows L2
/-! list(a text): its signs -/
end Dw
end
section
/-! zip(a list, a tuple): as many pairs as the shorter has -/
namespace Dw
open PySem PySem.Spec PyProof.Rows L2 Evl RZ
/-- the list at a, the tuple at b: their items in new pairs -/
def ItzM (K : PySem.W.Frag) (a b : Addr) : It :=
  ⟨fun i H => ∃ (xs ys : List V) (x y : V), SqL K H a xs ∧ SqT K H b ys ∧ xs[i]? = some x ∧ ys[i]? = some y,
   fun i H v H' => ∃ T x y, v = .ref T ∧ H T = none ∧ H' = upd H T (.tup [x, y]) ∧ (∀ xs, SqL K H a xs → xs[i]? = some x) ∧ (∀ ys, SqT K H b ys → ys[i]? = some y),
   fun i H => ∃ xs ys : List V, SqL K H a xs ∧ SqT K H b ys ∧ i ≤ xs.length ∧ i ≤ ys.length ∧ (i = xs.length ∨ i = ys.length)⟩
def StandsM (z TI TO i1 i2 a b : Addr) (i : Nat) (hp : Heap) : Prop := IsZip hp z TI TO .none ∧ IsTupOf2 hp TI (.ref i1) (.ref i2) ∧ (∃ x y, IsTupOf2 hp TO x y) ∧ hp.IsListIter i1 a i ∧ hp.IsTupleIter i2 b i
theorem five {c z TI TO i1 i2 : Addr} {P : Addr → Prop} (h : c ∈ [z, TI, TO, i1, i2]) (p1 : P z) (p2 : P TI) (p3 : P TO) (p4 : P i1) (p5 : P i2) : P c := by
  simp only [List.mem_cons, List.not_mem_nil, or_false] at h
  rcases h with e | e | e | e | e <;> (rw [e]; assumption)
theorem StandsM.low {z TI TO i1 i2 a b : Addr} {i : Nat} {hp : Heap} (st : StandsM z TI TO i1 i2 a b i hp) {c : Addr} (h : c ∈ [z, TI, TO, i1, i2]) : c < hp.objs.size := by
  obtain ⟨hz, hI, ⟨x, y, hO⟩, ⟨o1, e1, _⟩, ⟨o2, e2, _⟩⟩ := st
  exact five (P := fun c => c < hp.objs.size) h (Heap.lt_size hz) (Heap.lt_size hI) (Heap.lt_size hO) (Heap.lt_size e1) (Heap.lt_size e2)
theorem turn_zipM {P : Program} {w : World} {K : PySem.W.Frag} {elts : List Expr} {kk : Nat} {tpos : Pos} {a b z TI TO i1 i2 : Addr} (S : ZipSep2 z TI TO i1 i2 [i1, a] [i2, b]) : Turn P w K (.Tuple elts kk tpos) (ItzM K a b) [z, TI, TO, i1, i2] z (StandsM z TI TO i1 i2 a b) where
  mem := List.mem_cons_self ..
  obj := by
    intro i hp st c hc
    obtain ⟨hz, hI, ⟨x, y, hO⟩, ⟨o1, e1, _, d1⟩, ⟨o2, e2, _, d2⟩⟩ := st
    exact five (P := fun c => ∃ o, hp.get? c = some o ∧ ∀ v, o.data ≠ .cell v) hc ⟨_, hz, fun _ q => nomatch q⟩ ⟨_, hI, fun _ q => nomatch q⟩ ⟨_, hO, fun _ q => nomatch q⟩ ⟨o1, e1, fun v q => by rw [d1] at q; cases q⟩ ⟨o2, e2, fun v q => by rw [d2] at q; cases q⟩
  keep := by
    intro i hp hp' st same
    obtain ⟨hz, hI, ⟨x, y, hO⟩, h1, h2⟩ := st
    have at_ : ∀ c, c ∈ [z, TI, TO, i1, i2] → ∀ o, hp.get? c = some o → hp'.get? c = some o := same
    exact ⟨at_ z (by simp) _ hz, at_ TI (by simp) _ hI, ⟨x, y, at_ TO (by simp) _ hO⟩, h1.at (at_ i1 (by simp)), h2.at (at_ i2 (by simp))⟩
  item := by
    intro X eP ew eK calm i pins s σ H E I free st here
    subst eP ew eK
    have low := fun {c : Addr} => st.low (c := c)
    obtain ⟨hz, hI, ⟨x0, y0, hO⟩, h1, h2⟩ := st
    obtain ⟨xs, ys, x, y, hx, hy, atx, aty⟩ := here
    obtain ⟨cs, rel, pl, _⟩ := I.list hx
    obtain ⟨ds, rel2, pt, _⟩ := I.tuple hy
    obtain ⟨u, hu, ru⟩ := rel.get atx
    obtain ⟨u2, hu2, ru2⟩ := rel2.get aty
    have quiet : X.A.in1.handled = none := I.ok.hd calm
    have ne1 : a ≠ i1 := fun e => by
      obtain ⟨o1, g1, c1, _⟩ := h1
      obtain ⟨o2, g2, c2, _⟩ := pl.isList
      rw [e, g1] at g2
      cases g2
      rw [c1] at c2
      injection c2 with z
      exact absurd z (by decide)
    have ne2 : b ≠ i2 := fun e => by
      obtain ⟨o1, g1, c1, _⟩ := h2
      obtain ⟨o2, g2, c2, _⟩ := (show s.heap.IsTuple b ds.toArray from pt)
      rw [e, g1] at g2
      cases g2
      rw [c1] at c2
      injection c2 with z
      exact absurd z (by decide)
    have zl := low (c := z) (by simp)
    refine wpAny_pyNext_zipD2_item S (Draws.list (prog := X.prog) (w := X.w) quiet i1 a ne1 cs.toArray) (Draws.tuple (prog := X.prog) (w := X.w) quiet i2 b ne2 ds.toArray) hz hI hO ⟨h1, pl.isList⟩ ⟨h2, pt⟩ (by rw [List.size_toArray]; exact (List.getElem?_eq_some_iff.mp hu).1) (by rw [List.size_toArray]; exact (List.getElem?_eq_some_iff.mp hu2).1) fun v v2 hp1 tk p1 p2 z' O' s1 s2 pair _ same => ?_
    have ev : v = u := by
      have q : cs.toArray[i]? = some v := p1
      rw [List.getElem?_toArray, hu] at q
      exact (Option.some.inj q).symm
    have ev2 : v2 = u2 := by
      have q : ds.toArray[i]? = some v2 := p2
      rw [List.getElem?_toArray, hu2] at q
      exact (Option.some.inj q).symm
    subst ev ev2
    refine ⟨_, rfl, wpAny_letOwnedTupleGo_zip (s := { s with heap := hp1, toks := tk }) z' fun hp2 z'' but => ?_⟩
    have pair2 : hp2.get? s.heap.objs.size = some { cls := .type "tuple", data := .seq #[v, v2] } := (but.2 _ (Nat.ne_of_gt zl)).trans pair
    have fine : ObjOk X.prog X.w (upd H s.heap.objs.size (.tup [x, y])) hp2 s.heap.objs.size (.tup [x, y]) := And.intro (show 2 ≤ sizeLine by decide) ⟨[v, v2], .cons ru (.cons ru2 .nil), _, pair2, rfl, _, rfl⟩
    have still : ∀ c o, c ∉ [z, TI, TO, i1, i2] → s.heap.get? c = some o → hp2.get? c = some o := fun c o nc q => by
      simp only [List.mem_cons, List.not_mem_nil, or_false, not_or] at nc
      rw [but.2 c nc.1]
      exact same c o nc.1 nc.2.2.1 nc.2.2.2.1 nc.2.2.2.2 q
    have J := I.turnedNew (ch := [z, TI, TO, i1, i2]) (t' := tk) still free (Nat.le_refl s.heap.objs.size) fine
    refine ⟨.ref s.heap.objs.size, _, J, rfl, ⟨_, x, y, rfl, I.hok.fresh (Nat.le_refl _), rfl, fun l hl => by rw [I.list_inj hl hx]; exact atx, fun l hl => by rw [I.tuple_inj hl hy]; exact aty⟩, ⟨z'', ?_, ⟨v, v2, ?_⟩, ?_, ?_⟩, fun c hc => ?_⟩
    · exact (but.2 _ S.TIz).trans (same _ _ S.TIz S.TITO S.TIi1 S.TIi2 hI)
    · exact (but.2 _ S.TOz).trans O'
    · exact s1.1.at fun o q => (but.2 _ (Ne.symm S.zi1)).trans q
    · exact s2.1.at fun o q => (but.2 _ (Ne.symm S.zi2)).trans q
    · rw [upd_ne (Nat.ne_of_lt (low hc))]
      exact (free c hc).1
  done := by
    intro X eP ew eK calm i pins s σ H E I free st over
    subst eP ew eK
    obtain ⟨hz, hI, ⟨x0, y0, hO⟩, h1, h2⟩ := st
    obtain ⟨xs, ys, hx, hy, l1, l2, ends⟩ := over
    obtain ⟨cs, rel, pl, _⟩ := I.list hx
    obtain ⟨ds, rel2, pt, _⟩ := I.tuple hy
    have quiet : X.A.in1.handled = none := I.ok.hd calm
    have n1 := rel.length
    have n2 := rel2.length
    have ne1 : a ≠ i1 := fun e => by
      obtain ⟨o1, g1, c1, _⟩ := h1
      obtain ⟨o2, g2, c2, _⟩ := pl.isList
      rw [e, g1] at g2
      cases g2
      rw [c1] at c2
      injection c2 with z
      exact absurd z (by decide)
    have ne2 : b ≠ i2 := fun e => by
      obtain ⟨o1, g1, c1, _⟩ := h2
      obtain ⟨o2, g2, c2, _⟩ := (show s.heap.IsTuple b ds.toArray from pt)
      rw [e, g1] at g2
      cases g2
      rw [c1] at c2
      injection c2 with z
      exact absurd z (by decide)
    exact wpAny_pyNext_zipD2_end S (Draws.list (prog := X.prog) (w := X.w) quiet i1 a ne1 cs.toArray) (Draws.tuple (prog := X.prog) (w := X.w) quiet i2 b ne2 ds.toArray) hz hI hO ⟨h1, pl.isList⟩ ⟨h2, pt⟩ (by rw [List.size_toArray]; omega) (by rw [List.size_toArray]; omega) (by rw [List.size_toArray, List.size_toArray]; omega) fun hp1 tk same =>
      ⟨rfl, I.turnedL (t' := tk) (ch := [z, TI, TO, i1, i2]) (fun c o nc q => by
        simp only [List.mem_cons, List.not_mem_nil, or_false, not_or] at nc
        exact same c o nc.1 nc.2.2.1 nc.2.2.2.1 nc.2.2.2.2 q) free⟩
  self := fun A i s Q E st h => wpAny_pyIter_zip st.1 h
theorem nq {x y : Nat} (h : x ≠ y) : ¬ @Eq Addr x y := h
theorem sepM (I l1 l2 : Nat) (h1 : l1 < I) (h2 : l2 < I) : ZipSep2 (I + 4) (I + 2) (I + 3) I (I + 1) [I, l1] [I + 1, l2] := by
  constructor <;> (simp only [List.mem_cons, List.not_mem_nil, or_false, not_or, ne_eq, true_or]; try first | exact nq (by omega) | exact ⟨nq (by omega), nq (by omega)⟩)
def iZipM (K : PySem.W.Frag) (ta : TA) : TI := fun σ H R => ta σ H fun vs H1 => ∃ a b xs ys, vs = [.ref a, .ref b] ∧ SqL K H1 a xs ∧ SqT K H1 b ys ∧ R (ItzM K a b) H1
theorem pi_zipM {X : Cx} {e e2 : Expr} {ta : TA} {p pos tpos : Pos} {elts : List Expr} {kk : Nat} (glob : Gl X "zip") (none_ : X.mg "zip" = none) (args : PA X [e, e2] ta)
    (star : starEach [e, e2] X.env = (false, eval e X.env) :: starEach [e2] X.env := by rfl) (plain : (backTo pos (starEach [e2] X.env)).any (·.1) = false := by rfl) : PI X (.Tuple elts kk tpos) (.Call (.Name "zip" p) [e, e2] [] pos) (iZipM X.K ta) := by
  constructor
  intro pins s σ H R I q0
  refine Call_ (ld_blt I glob none_ PyProof.Rows.boot_zip (PyProof.Rows.callWith_type1 (thn (args.run pos pins s σ H _ I q0) fun us s1 got => ?_) star plain))
  obtain ⟨vs, H1, J, rel, a, b, xs, ys, ev, hx, hy, q1⟩ := got
  subst ev
  cases rel with
  | cons r1 rel =>
    cases rel with
    | cons r2 rel =>
      cases rel
      cases r1
      cases r2
      obtain ⟨cs, _, pl, _⟩ := J.list hx
      obtain ⟨ds, _, pt, _⟩ := J.tuple hy
      have la : a < s1.heap.objs.size := pl.lt
      have lb : b < s1.heap.objs.size := by
        obtain ⟨o, ho, _⟩ := (show s1.heap.IsTuple b ds.toArray from pt)
        exact Heap.lt_size ho
      refine zip_begins2 (begins_list a cs.toArray) (begins_tuple b ds.toArray) pl.isList pt fun hp hz hI hO g1 g2 _ kept => wpAny_pyIter_zip hz ?_
      have J2 : Inv X pins σ H1 { s1 with heap := hp } := J.kept (t' := s1.toks) kept
      have sep := sepM s1.heap.objs.size a b la lb
      refine ⟨s1.heap.objs.size + 4, [s1.heap.objs.size + 4, s1.heap.objs.size + 2, s1.heap.objs.size + 3, s1.heap.objs.size, s1.heap.objs.size + 1], _, _, H1, rfl, J2, turn_zipM sep, ⟨hz, hI, ⟨_, _, hO⟩, ⟨_, g1, rfl, rfl⟩, ⟨_, g2, rfl, rfl⟩⟩, fun c hc => ?_, q1⟩
      have late : s1.heap.objs.size ≤ c := five (P := fun c => s1.heap.objs.size ≤ c) hc (Nat.le_add_right _ _) (Nat.le_add_right _ _) (Nat.le_add_right _ _) (Nat.le_refl _) (Nat.le_add_right _ _)
      exact J.fpOk late (J.hok.fresh late)
theorem walk_zipM {K : PySem.W.Frag} {a b : Addr} {xs ys : List V} {n : Nat} (hn : n = min xs.length ys.length) : Walk (ItzM K a b) n (fun H => SqL K H a xs ∧ SqT K H b ys) (YPair (fun i => xs[i]?) (fun i => ys[i]?)) := by
  refine ⟨fun i H hi q => ⟨xs, ys, xs[i]'(by omega), ys[i]'(by omega), q.1, q.2, List.getElem?_eq_getElem (by omega), List.getElem?_eq_getElem (by omega)⟩, fun H q => ⟨xs, ys, q.1, q.2, by omega, by omega, by omega⟩, fun i H v H' _ q y => ?_⟩
  obtain ⟨T, x1, x2, h1, h2, h3, h4, h5⟩ := y
  exact ⟨T, x1, x2, h1, h2, h3, h4 xs q.1, h5 ys q.2⟩
end Dw
end
section
/-! dicts told with the same keys and the same data -/
namespace Dw
open PySem PySem.Spec PyProof.Rows L2 Evl RZ
section
variable {X : Cx}
end
end Dw
end
section
/-! zip(a tuple, a list): as many pairs as the shorter has -/
namespace Dw
open PySem PySem.Spec PyProof.Rows L2 Evl RZ
def StandsN (z TI TO i1 i2 a b : Addr) (i : Nat) (hp : Heap) : Prop := IsZip hp z TI TO .none ∧ IsTupOf2 hp TI (.ref i1) (.ref i2) ∧ (∃ x y, IsTupOf2 hp TO x y) ∧ hp.IsTupleIter i1 a i ∧ hp.IsListIter i2 b i
theorem StandsN.low {z TI TO i1 i2 a b : Addr} {i : Nat} {hp : Heap} (st : StandsN z TI TO i1 i2 a b i hp) {c : Addr} (h : c ∈ [z, TI, TO, i1, i2]) : c < hp.objs.size := by
  obtain ⟨hz, hI, ⟨x, y, hO⟩, ⟨o1, e1, _⟩, ⟨o2, e2, _⟩⟩ := st
  exact five (P := fun c => c < hp.objs.size) h (Heap.lt_size hz) (Heap.lt_size hI) (Heap.lt_size hO) (Heap.lt_size e1) (Heap.lt_size e2)
end Dw
end
section
/-! list(zip(a, b)) -/
namespace Dw
open PySem PySem.Spec PyProof.Rows L2 Evl
/-- what a zip under way is, with S apart -/
structure ZG (z TI TO p q a b S : Addr) (t1 t2 : Bool) (xs ys : Array Value) (i : Nat) (h : Heap) : Prop where
  ti : IsTupOf2 h TI (.ref p) (.ref q)
  s1 : SqI t1 p a xs i h
  s2 : SqI t2 q b ys i h
  st : (IsZip h z TI TO .none ∧ ∃ x y, IsTupOf2 h TO x y) ∨ ∃ T f oT, IsZipHeld h z TI TO T f ∧ h.get? T = some oT ∧ T ≠ z ∧ T ≠ p ∧ T ≠ q ∧ T ≠ S
theorem ZG.keep {z TI TO p q a b S : Addr} {t1 t2 : Bool} {xs ys : Array Value} {i : Nat} {h h' : Heap} (g : ZG z TI TO p q a b S t1 t2 xs ys i h) (far : ∀ c ∈ [z, TI, TO, p, q, a, b], c < S) (k : ∀ c o, c ≠ S → h.get? c = some o → h'.get? c = some o) : ZG z TI TO p q a b S t1 t2 xs ys i h' := by
  have nz : ∀ c ∈ [z, TI, TO, p, q, a, b], c ≠ S := fun c hc => Nat.ne_of_lt (far c hc)
  obtain ⟨e1, e2, e3, e4⟩ := g
  refine ⟨k _ _ (nz TI (by simp)) e1, e2.keep fun c hc o e => ?_, e3.keep fun c hc o e => ?_, ?_⟩
  · rcases hc with x | x <;> subst x <;> exact k _ o (nz _ (by simp)) e
  · rcases hc with x | x <;> subst x <;> exact k _ o (nz _ (by simp)) e
  · rcases e4 with ⟨isZ, x, y, isO⟩ | ⟨T, f, oT, isZ, atT, r1, r2, r3, r4⟩
    · exact .inl ⟨k _ _ (nz z (by simp)) isZ, x, y, k _ _ (nz TO (by simp)) isO⟩
    · exact .inr ⟨T, f, oT, k _ _ (nz z (by simp)) isZ, k _ _ r4 atT, r1, r2, r3, r4⟩
section
variable {prog : Program} {w : World} {A : Around} {E : Value → Shared → Prop} {s : Shared} {z TI TO p q a b S : Addr} {t1 t2 : Bool} {xs ys : Array Value} {i : Nat}
end
/-- the pairs at their addresses -/
structure ZPr (xs ys : Array Value) (lo : Addr) (h : Heap) (as : List Addr) : Prop where
  rise : as.Pairwise (· < ·)
  above : ∀ a ∈ as, lo < a
  pairs : ∀ (j : Nat) (a : Addr), as[j]? = some a → ∃ x y, xs[j]? = some x ∧ ys[j]? = some y ∧ IsTupOf2 h a x y
theorem ZPr.there {xs ys : Array Value} {lo : Addr} {h : Heap} {as : List Addr} (g : ZPr xs ys lo h as) {a : Addr} (ha : a ∈ as) : a < h.objs.size := by
  obtain ⟨j, hj⟩ := List.mem_iff_getElem?.mp ha
  obtain ⟨_, _, _, _, e⟩ := g.pairs j a hj
  exact Heap.lt_size e
section
variable {prog : Program} {w : World} {A : Around} {s : Shared} {R : Result → Shared → Prop} {z TI TO p q a b S : Addr} {t1 t2 : Bool} {xs ys : Array Value}
end
section
variable {prog : Program} {w : World} {A : Around} {E : Value → Shared → Prop} {s : Shared} {z TI TO p q a b : Addr} {t1 t2 : Bool} {xs ys : Array Value}
end
/-! laid down -/
end Dw
end
section
/-! a tuple times 0 or 1 -/
namespace Dw
open PySem PySem.Spec PyProof.Rows L2
end Dw
end
section
/-! a caught exception that is kept: it is told from the catch on, so that isinstance can be asked of it behind the try -/
namespace Dw
open PySem PySem.Spec PyProof.Rows L2
/-- an exception of the class cls, that is no longer in the air -/
def ExcAt (a : Addr) (cls : Value) (d : Option Addr) : HO := .ext fun h => ∃ ob fv, h.get? a = some ob ∧ Zc cls d ob ∧ ob.data = .fields fv
section
variable {X : Cx} {pins : List (Addr × Obj)} {σ : L2.St} {H : Hp} {s : Shared}
theorem excAt_ok {P : Program} {w : World} {h : Heap} {a : Addr} {ob : Obj} {fv : Array Value} {cls : Value} {d : Option Addr} (e : h.get? a = some ob) (z : Zc cls d ob) (f : ob.data = .fields fv) : ObjOk P w H h a (ExcAt a cls d) :=
  ⟨⟨ob, fv, e, z, f⟩, ⟨ob, e⟩, fun _ _ ⟨o, v, e1, z1, f1⟩ k => ⟨o, v, k o e1, z1, f1⟩⟩
/-- an object that stands, is new since the def began and was not told, is told from now on -/
theorem track {a : Addr} {ob : Obj} {fv : Array Value} {cls : Value} {d : Option Addr} (I : Inv X pins σ H s) (e : s.heap.get? a = some ob) (z : Zc cls d ob) (f : ob.data = .fields fv) (na : H a = none) (new : X.s_0.heap.get? a = none) (nL : a ≠ X.env.locals) (nP : ∀ p ∈ X.pn ++ pins, p.1 ≠ a) :
    Inv X pins σ (upd H a (ExcAt a cls d)) s := by
  have other : ∀ {b : Addr} {u : HO}, H b = some u → upd H a (ExcAt a cls d) b = some u := fun {b u} q => by
    rw [upd_ne (fun y => by rw [y, na] at q; cases q)]
    exact q
  refine ⟨I.ok, I.os, I.bare, ⟨I.base.keep, I.base.slot, fun b o q n x => ?_, I.base.there, fun b xs q => other (I.base.tups b xs q), fun b o u q => other (I.base.frzs b o u q), fun b ps q => ?_⟩, I.loc, I.cell, ?_, fun y cc q => ?_, fun p hp => ?_, fun b o q => ?_, I.len⟩
  · rw [upd_ne (fun y => by rw [y, new] at q; cases q)]
    exact I.base.free b o q n x
  · obtain ⟨more, q2⟩ := I.base.tbls b ps q
    exact ⟨more, other q2⟩
  · rw [upd_ne (Ne.symm nL)]
    exact I.free
  · rw [upd_ne (fun y2 => ?_)]
    · exact I.freeC y cc q
    · obtain ⟨v, o, e2, d2⟩ := I.cell y cc q
      rw [y2, e] at e2
      cases e2
      rw [f] at d2
      cases d2
  · obtain ⟨p1, p2, p3⟩ := I.pin p hp
    exact ⟨p1, by rw [upd_ne (nP p hp)]; exact p2, p3⟩
  · by_cases ba : b = a
    · subst ba
      rw [upd_same] at q
      cases q
      exact excAt_ok e z f
    · rw [upd_ne ba] at q
      exact (I.hok b o q).stay (fun _ _ _ g => g) (fun _ g => other g) fun _ _ g => other g
/-- what the clause wishes: the class is one that it catches, and its suite goes on with the exception told -/
def wTrk (K : PySem.W.Frag) (c : Value) (i : Nat) (ts : TS) (D : Ends) : WX := fun cls d σ H =>
  PySem.W.exmOne K cls c = some true ∧ ∀ a, H a = none → ts ⟨fun σ' H' => D.nx (σ'.set i none) H', fun _ _ => False, fun _ _ => False, fun _ _ => False⟩ (σ.set i (some (.ref a))) (upd H a (ExcAt a cls d))
theorem in_suite (I : Inv X pins σ H s) (a : Addr) : Inv (X.suite a (X.pn ++ pins)) [] σ H s := ⟨I.ok.suite _ _, I.os, I.bare, I.base, I.loc, I.cell, I.free, I.freeC, fun p hp => I.pin p ((List.append_nil (X.pn ++ pins)) ▸ hp), I.hok, I.len⟩
theorem out_suite {a : Addr} (I : Inv (X.suite a (X.pn ++ pins)) [] σ H s) (ok : X.Ok) : Inv X pins σ H s := ⟨ok, I.os, I.bare, I.base, I.loc, I.cell, I.free, I.freeC, fun p hp => I.pin p (List.mem_append_left _ hp), I.hok, I.len⟩
end
section
variable {X : Cx} {x n : Str} {c : Value} {i : Nat} {body suite : List Stmt} {b0 : Stmt} {np p1 p2 : Pos} {tb : WX → TS} {ts : TS}
theorem ps_try_trk (st : X.stack = X.env :: X.outer) (fr : X.env.frame = some X.env.locals) (hex : X.ex = []) (nd : X.N.Nodup) (at_ : X.N[i]? = some n) (kd : X.env.kindOf n = some .local) (nm : Names X x c)
    (hb : ∀ (W : WX) (pn : List (Addr × Obj)) (xe : Value → Shared → Prop), Takes (X.tr pn xe) W → PassesOwn (model X.prog X.w) X.A X.env xe → PSs (X.tr pn xe) body (tb W)) (hsu : ∀ a pn, PSs (X.suite a pn) (b0 :: suite) ts) :
    PS X (.Try body [.ExceptHandler (some (.Name x np)) (some n) (b0 :: suite) p2] [] [] p1) (fun D σ H => tb (wTrk X.K c i ts D) D σ H) := by
  refine ⟨fun pins s σ H D I rd => wpAny_Try_except ?_⟩
  have around : X.A.frames = some (X.env :: X.outer) := I.ok.frames.trans (congrArg some st)
  refine wpAny_mono ((hb (wTrk X.K c i ts D) (X.pn ++ pins) _ (fun u s1 air => ?_) PassesOwn.looking).run [] s σ H D (I.toTry _) rd) (fun fl s1 fin => ?_) (fun _ _ q => q)
  · obtain ⟨a, B, sI, pins1, σ1, H1, cls, d, rfl, J1, ground, slots, sky, na, os, gens, hit, wish⟩ := air
    have J : Inv X pins σ1 H1 sI := J1.ofTry I.ok
    refine Sky.land Zc.steady around fr (show Sky B (X.env :: X.outer) a (Zc cls d) X.env.locals s1.heap from st ▸ sky) fun h2 fly2 slots2 => ?_
    have J2 : Inv X pins σ1 H1 { s1 with heap := h2 } := J.landed ground fly2.1 (slots.trans slots2) os gens
    obtain ⟨ob2, fv2, got2, z2, f2⟩ := fly2.there
    have noFrame : a ∉ frs X.stack := fun m => by
      rw [st] at m
      obtain ⟨_, o', g', no⟩ := fly2.2.2.1.mem m
      rw [got2] at g'
      cases g'
      exact no _ f2
    have newI : sI.heap.get? a = none := by
      cases g : sI.heap.get? a with
      | none => rfl
      | some o =>
        have q := ground a o g noFrame
        rw [fly2.2.1] at q
        cases q
    have new0 : X.s_0.heap.get? a = none := by
      cases g : X.s_0.heap.get? a with
      | none => rfl
      | some o =>
        by_cases ex : a ∈ X.ex
        · rw [hex] at ex
          cases ex
        · obtain ⟨o', q⟩ := J.base.there a o g ex
          rw [newI] at q
          cases q
    have notL : a ≠ X.env.locals := fun q => noFrame (by
      rw [st]
      exact List.mem_filterMap.mpr ⟨X.env, List.mem_cons_self .., by rw [fr, q]⟩)
    have notP : ∀ p ∈ X.pn ++ pins, p.1 ≠ a := fun p hp q => by
      have g := (J.pin p hp).1
      rw [q, newI] at g
      cases g
    refine wpAny_handleBy_cons (codeAny_handlers_test ?_) (fun q => nomatch q)
    have typ : PySem.W.Looks (model X.prog X.w) h2 (typeOf (.ref a)) cls := fun A Q E s' k q => wpAny_typeOf_ref (k _ _ got2) (by rw [z2.1]; exact q)
    have yes := PySem.W.exm_one (M := model X.prog X.w) J2.kIn typ hit
    have named : ∀ {Q : Value → Shared → Prop} {E : Value → Shared → Prop}, Q c { s1 with heap := h2 } → wpAny (model X.prog X.w) (X.A.mark (some (.ref a))) (eval (.Name x np) X.env) Q E { s1 with heap := h2 } := fun {Q E} q => by
      obtain ⟨g, nodbg, m | ⟨m, bt, nn⟩⟩ := nm
      · exact ld_glob (in_suite J2 a) g m q nodbg
      · exact ld_blt (in_suite J2 a) g m bt q nn nodbg
    refine named (yes.here (codeAny_handlers_suite_as (HandSPX.lands_againZ fly2 fun h3 fly3 slots3 => ?_)))
    have J3 : Inv X pins σ1 H1 { s1 with heap := h3 } := J.landed ground fly3.1 ((slots.trans slots2).trans slots3) os gens
    obtain ⟨ob3, fv3, got3, z3, f3⟩ := fly3.there
    have T3 := in_suite (track J3 got3 z3 f3 na new0 notL notP) a
    refine store_ok (X := X.suite a (X.pn ++ pins)) (v := .ref a) T3 nd at_ (.inl kd) rfl (fun s4 T4 => ?_) (.inr kd)
    refine wpAny_mono ((hsu a (X.pn ++ pins)).run [] s4 _ _ _ T4 (wish a na)) (fun fl s5 fin => ?_) (fun _ _ q => q.elim)
    cases fl with
    | next =>
      obtain ⟨σ5, H5, T5, q5⟩ := fin
      exact gone_ok (out_suite T5 I.ok) nd at_ kd fun s6 J6 => ⟨_, _, J6, q5⟩
    | brk => exact fin.elim fun _ ⟨_, _, q⟩ => q.elim
    | cont => exact fin.elim fun _ ⟨_, _, q⟩ => q.elim
    | ret u => exact fin.elim fun _ ⟨_, _, _, _, q⟩ => q.elim
  · cases fl with
    | next =>
      obtain ⟨σ2, H2, J2, q⟩ := fin
      exact wpAny_execs_nil ⟨σ2, H2, J2.ofTry I.ok, q⟩
    | brk =>
      obtain ⟨σ2, H2, J2, q⟩ := fin
      exact ⟨σ2, H2, J2.ofTry I.ok, q⟩
    | cont =>
      obtain ⟨σ2, H2, J2, q⟩ := fin
      exact ⟨σ2, H2, J2.ofTry I.ok, q⟩
    | ret u =>
      obtain ⟨v, σ2, H2, J2, r, q⟩ := fin
      exact ⟨v, σ2, H2, J2.ofTry I.ok, r, q⟩
end
end Dw
end
section
/-! isinstance of a kept exception; defs that raise, called in a try -/
namespace Dw
open PySem PySem.Spec PyProof.Rows L2 Evl
/-- a def that keeps a promise and may raise -/
structure ClX (P : Program) (w : World) (K : PySem.W.Frag) (mg : Str → Option Value) (base : Heap) (k : Nat) (x : Str) (sp : Sp) : Prop where
  ex : ∃ (f : Addr) (fd : FuncData) (ps : List Str), FnOk P w K mg base (L2.CX P w) k f fd ps sp ∧ mg x = some (.ref f) ∧ PySem.W.keepIn K (.ref f) = true ∧ Binds K fd ps []
theorem clx_of {P : Program} {w : World} {K : PySem.W.Frag} {mg : Str → Option Value} {base : Heap} {x : Str} {st : Stmt} {N ps : List Str} {k : Nat} {sp : Sp} (D : Df K mg x st ps) (S : FnScope N ps (defScope st)) (len : ∀ vs H Q E, sp vs H Q E → vs.length = ps.length)
    (body : ∀ (f : Addr) (cdv : Value) (A : Around) (outer : List Env) (s : Shared) (H : Hp) (vs : List V) (Q : VK) (E : XK), Room k (A.deeper (envOfC x (defScope st) s.heap.objs.size f cdv)) → sp vs H Q E →
      ∃ t, PSs (cxOf (L2.CX P w) P w K mg base N x (defScope st) f cdv A outer s H E) (defBody st) t ∧ t { nx := fun _ H' => Q .non H', rt := Q } (start N vs) H) : ClX P w K mg base (k + 1) x sp := by
  obtain ⟨f, fd, F, m, b⟩ := D.ex
  exact ⟨f, fd, ps, F.okX S len (fun cdv A outer s H vs Q E hr h => body f cdv A outer s H vs Q E hr h), m, F.kp, b⟩
/-- its call where the wish of what is raised is W -/
theorem pe_clX {X : Cx} {k j : Nat} {x : Str} {sp : Sp} {p pos : Pos} {e : Expr} {es : List Expr} {t : TA} {W : WX} (c : ClX X.prog X.w X.K X.mg X.base k x sp) (tk : Takes X W) (hr : Room j X.A) (hk : k ≤ j) (hg : Gl X x) (ha : PA X (e :: es) t)
    (dbg : (x == ("__debug__" : Str)) = false := by decide) (str : starEach (e :: es) X.env = (false, eval e X.env) :: starEach es X.env := by rfl) (bck : (backTo pos (starEach es X.env)).any (·.1) = false := by rfl) :
    PE X (.Call (.Name x p) (e :: es) [] pos) (tCallS sp (fun σ => WE W σ) t) := by
  obtain ⟨f, fd, ps, F, m, kp, b⟩ := c.ex
  exact pe_callS F (hr.mono hk) hg m kp b (fun σ => passAt tk σ) ha dbg str bck
/-- a promise to raise an error of the class C, all that stood left as it was -/
def spE {α : Type} (C : Addr) (pre : α → List V → Hp → Prop) : Sp := fun vs H _ E => ∃ a, pre a vs H ∧ ∀ H', Ex H H' → E (.ref C) none H'
/-- a pure promise of a new thing -/
def spF {α : Type} (pre : α → List V → Hp → Prop) (post : α → V → Hp → Prop) : Sp := fun vs H Q _ => ∃ a, pre a vs H ∧ ∀ v H', Ex H H' → post a v H' → (∀ d, v = .ref d → H d = none) → Q v H'
/-- what the top says of an error's class -/
structure ExcT (K : PySem.W.Frag) (mg : Str → Option Value) (x : Str) (C : Addr) : Prop where
  g : mg x = some (.ref C)
  k : PySem.W.keepIn K (.ref C) = true
  q : PySem.W.excIn K C [.type "ValueError", .type "Exception", .type "BaseException", .type "object"] "ValueError.__new__" = true
  t : PySem.W.typeIn K (.ref C) = some (.type "type")
  c : ExcC K C
end Dw
end
section
/-! repr of a written list with dicts of data among its items -/
namespace Dw
open PySem PySem.Spec PyProof.Rows L2 Evl
/-! data of texts, numbers and tuples alone: no place is told of it -/
mutual
def noL : PyData → Bool
  | .none | .bool _ | .int _ | .str _ => true
  | .tuple xs => noLs xs
  | .list _ | .dict _ => false
def noLs : List PyData → Bool
  | [] => true
  | x :: xs => noL x && noLs xs
end
section
variable {X : Cx} {pins : List (Addr × Obj)} {σ : L2.St} {H : Hp} {s : Shared}
end
/-! sizes -/
structure Gs (k W : Nat) (d : PyData) : Prop where
  dep : d.depth ≤ k
  wgt : d.weight ≤ W
  its : d.leavesShort 13 = true
  sho : d.showable = true
theorem Gd.gs {k W : Nat} {d : PyData} (h : Gd k W d) : Gs k W d := ⟨h.dep, h.wgt, PyData.leavesShort_of_canLay0 13 d h.lay h.its, h.sho⟩
theorem Gs.mono {k W k' W' : Nat} {d : PyData} (h : Gs k W d) (a : k ≤ k') (b : W ≤ W') : Gs k' W' d := ⟨Nat.le_trans h.dep a, Nat.le_trans h.wgt b, h.its, h.sho⟩
theorem Gs.len {k W : Nat} {d : PyData} (h : Gs k W d) (b : W ≤ 1000000) : d.shown.length ≤ sizeLine := by
  have z := PyData.shown_le 13 (by decide) d h.its
  have y := h.wgt
  rw [sizeLine_eq]
  omega
end Dw
end
section
/-! == and != of deep data; isinstance of what was caught or of None, one class or a written tuple of them -/
namespace Dw
open PySem PySem.Spec PyProof.Rows L2 Evl
/-- None, or a kept exception: its type -/
def TyC (K : PySem.W.Frag) (H : Hp) (x : V) (t : Value) : Prop := (x = .non ∧ t = .type "NoneType") ∨ ∃ (a C : Addr), x = .ref a ∧ H a = some (ExcAt a (.ref C) none) ∧ ExcC K C ∧ t = .ref C
theorem TyC.ex {K : PySem.W.Frag} {H H' : Hp} {x : V} {t : Value} (e : Ex H H') (h : TyC K H x t) : TyC K H' x t := h.imp id fun ⟨a, C, h1, h2, h3, h4⟩ => ⟨a, C, h1, e _ _ h2, h3, h4⟩
theorem tyc_kit {X : Cx} {pins : List (Addr × Obj)} {σ : L2.St} {H : Hp} {s : Shared} {x : V} {t v : Value} (I : Inv X pins σ H s) (h : TyC X.K H x t) (r : RelV x v) : ∃ Pr, PySem.W.KitX X.K v t Pr ∧ Pr s.heap ∧ v ≠ .builtin "__main__.__loader__#opaque" := by
  rcases h with ⟨rfl, rfl⟩ | ⟨a, C, rfl, ha, xc, rfl⟩
  · obtain ⟨P, Z, p, hx⟩ := kit_of I r (tyx_non (K := X.K) (H := H))
    exact ⟨P, Z, p, hx⟩
  · cases (show v = Value.ref a from r)
    obtain ⟨⟨ob, fv, got, ⟨hc, hd⟩, hf⟩, _⟩ := (show ObjOk X.prog X.w H s.heap a (ExcAt a (.ref C) none) from I.hok a _ ha)
    have inst : PySem.W.InstAt s.heap a ob C none := by
      obtain ⟨c1, d1, t1, l1⟩ := ob
      cases (show c1 = Value.ref C from hc)
      cases (show d1 = none from hd)
      cases (show t1 = .fields fv from hf)
      exact ⟨got, rfl, rfl, trivial⟩
    exact ⟨_, PySem.W.handS_kitx_exc xc.hg xc.hk xc.hs xc.hd xc.ha xc.hn xc.ht xc.hm, inst, fun z => nomatch z⟩
def rIsC (K : PySem.W.Frag) : List V → Hp → VK → Prop := fun xs H Q => ∃ (x c : V) (t u : Value) (b : Bool), xs = [x, c] ∧ ClsV c u ∧ TyC K H x t ∧ PySem.W.kitOne K t u = some b ∧ Q (.bl b) H
theorem call_isC {X : Cx} : CallR X (.builtin "isinstance") (rIsC X.K) := by
  intro pins s σ H xs us Q I r h
  obtain ⟨x, c, t, u, b, rfl, k, ty, e, q⟩ := h
  obtain ⟨u1, u2, rfl, r1, r2⟩ := vals2 r
  have e2 := k.eq r2
  subst e2
  obtain ⟨P, Z, p, hx⟩ := tyc_kit I ty r1
  exact PySem.W.kia_one Z I.kIn p e hx fun tk => ⟨.bl b, H, I.tok tk, rfl, q⟩
theorem ev_isC {K : PySem.W.Frag} {σ : L2.St} {H : Hp} {ta tb : TE} {x c : V} {t u : Value} {b : Bool} (ha : Ev ta σ H x) (hc : Ev tb σ H c) (k : ClsV c u) (ty : TyC K H x t) (e : PySem.W.kitOne K t u = some b) : Ev (tCB (rIsC K) (tCons ta (tCons tb tNil))) σ H (.bl b) :=
  fun H1 e1 Q q => ha H1 e1 _ fun H2 e2 => hc H2 (e1.trans e2) _ fun H3 e3 => ⟨x, c, t, u, b, rfl, k, ty.ex ((e1.trans e2).trans e3), e, q H3 (e2.trans e3)⟩
end Dw
end
section
/-! defs that are only called where nothing is being shown, and repr in them -/
namespace Dw
open PySem PySem.Spec PyProof.Rows L2 Evl
/-- a def that keeps a promise where nothing is being shown -/
structure ClG (P : Program) (w : World) (K : PySem.W.Frag) (mg : Str → Option Value) (base : Heap) (k : Nat) (x : Str) (sp : Sp) : Prop where
  ex : ∃ (f : Addr) (fd : FuncData) (ps : List Str), (∀ vs H Q E, sp vs H Q E → vs.length = ps.length) ∧
    (∀ (A : Around) (outer : List Env) (s : Shared) (H : Hp) (args : Args) (us : List Value) (vs : List V) (Q : VK) (E : XK), A.guards = some [] → Room k A → Env0 P w K mg base A outer s H → BindsTo s fd args (ps.zip us) → Vals vs us → sp vs H Q E → codeAny (model P w) A (.call (.ref f) args) (CR CX0 outer P w H s Q E) s) ∧
    mg x = some (.ref f) ∧ PySem.W.keepIn K (.ref f) = true ∧ Binds K fd ps []
theorem clg_of {P : Program} {w : World} {K : PySem.W.Frag} {mg : Str → Option Value} {base : Heap} {x : Str} {st : Stmt} {N ps : List Str} {k : Nat} {sp : Sp} (D : Df K mg x st ps) (S : FnScope N ps (defScope st)) (len : ∀ vs H Q E, sp vs H Q E → vs.length = ps.length)
    (body : ∀ (f : Addr) (cdv : Value) (A : Around) (outer : List Env) (s : Shared) (H : Hp) (vs : List V) (Q : VK) (E : XK), A.guards = some [] → Room k (A.deeper (envOfC x (defScope st) s.heap.objs.size f cdv)) → sp vs H Q E →
      ∃ t, PSs (cxOf CX0 P w K mg base N x (defScope st) f cdv A outer s H E).nox (defBody st) t ∧ t { nx := fun _ H' => Q .non H', rt := Q } (start N vs) H) : ClG P w K mg base (k + 1) x sp := by
  obtain ⟨f, fd, F, m, b⟩ := D.ex
  refine ⟨f, fd, ps, len, ?_, m, F.kp, b⟩
  obtain ⟨oc, od, kV, doc, pm, an, cdv, ct, osl, rfl, lk, hcd⟩ := F.ex
  intro A outer s H args us vs Q E gs hr e0 hb r hsp
  obtain ⟨t, ht, hq⟩ := body f cdv A outer s H vs Q E gs (hr.deeper _) hsp
  have old := fun b o (q : base.get? b = some o) => (e0.bs b o q).1
  have kin : K.In s.heap := e0.mod.kin.keeps old
  refine codeAny_call_function hr.depth (kin _ _ lk) rfl S.co S.gen rfl (PySem.W.codeRec_of kin hcd) (hb _ _ _ _ (wpAny_newFunctionEnv_cells S.kind (fun y hy => ?_) fun env he s1 x1 => ?_))
  · exact (S.par y.1 (List.of_mem_zip hy).1).imp id fun z => ⟨z, PySem.W.cellsFrom_some _ _ _ (.inl z)⟩
  · subst he
    refine ⟨(e0.mod.nolimit.keeps old).keeps x1.toInCall.keep, codeAny_func (wpAny_mono (ht.nox.run [] s1 (start N vs) H _ (inv_start S hr.hd e0 (len _ _ _ _ hsp) r x1) hq) (fun fl s2 fin => ?_) (fun _ _ z => z))⟩
    cases fl with
    | ret u => exact fin.elim fun v ⟨_, H2, J2, rv, q2⟩ => ⟨v, H2, J2.os, J2.bare, J2.base, J2.hok, rv, q2⟩
    | next => exact fin.elim fun _ ⟨H2, J2, q2⟩ => ⟨V.non, H2, J2.os, J2.bare, J2.base, J2.hok, rfl, q2⟩
    | brk => exact fin.elim fun _ ⟨_, _, z⟩ => z.elim
    | cont => exact fin.elim fun _ ⟨_, _, z⟩ => z.elim
theorem pe_clG {X : Cx} {k j : Nat} {x : Str} {sp : Sp} {p pos : Pos} {e : Expr} {es : List Expr} {t : TA} (c : ClG X.prog X.w X.K X.mg X.base k x sp) (gs : X.A.guards = some []) (hr : Room j X.A) (hk : k ≤ j) (hg : Gl X x) (ha : PA X (e :: es) t)
    (dbg : (x == ("__debug__" : Str)) = false := by decide) (str : starEach (e :: es) X.env = (false, eval e X.env) :: starEach es X.env := by rfl) (bck : (backTo pos (starEach es X.env)).any (·.1) = false := by rfl) :
    PE X (.Call (.Name x p) (e :: es) [] pos) (tCall sp [] E0 t) := by
  obtain ⟨f, fd, ps, len, go, m, kp, b⟩ := c.ex
  refine ⟨fun pins s σ H Q I h => wpAny_Call_Name_kw (ld_glob I hg m (PySem.W.callWith_K (h₀ := X.base) I.ok.mod.kin kp (thn (ha.run pos pins s σ H _ I h) fun us s1 ⟨vs, H1, J, r, q⟩ => ⟨J.kIn, ?_⟩) str bck) dbg)⟩
  replace q : sp (vs ++ []) H1 Q E0 := q
  rw [List.append_nil] at q
  have lu : (us ++ []).length = ps.length := by
    rw [List.append_nil, ← r.length]
    exact len _ _ _ _ q
  have bd := b s1 us J.kIn lu
  rw [List.append_nil] at bd
  refine wpAny_call (codeAny_mono (go X.A X.stack s1 H1 ⟨us, []⟩ us vs Q E0 gs (hr.mono hk) J.env0 bd r q) fun o s2 hq => ?_)
  match o, hq with
  | .error e, hq => exact pass0 pins σ H1 s1 e s2 J hq
  | .ok (.ret u), hq => exact J.after hq
  | .ok .next, hq => exact hq.elim
  | .ok .brk, hq => exact hq.elim
  | .ok .cont, hq => exact hq.elim
end Dw
end
section
/-! in of a tuple of data; repr of deep data -/
namespace Dw
open PySem PySem.Spec PyProof.Rows L2 Evl
end Dw
end
section
/-! tuple * int, the int small, below 1 too -/
namespace Dw
open PySem PySem.Spec PyProof.Rows L2 Evl
end Dw
end
section
/-! repr of any data without dicts -/
namespace Dw
open PySem PySem.Spec PyProof.Rows L2 Evl
def rReprW (X : Cx) : List V → Hp → VK → Prop := fun xs H Q => ∃ (v : V) (d : PyData), xs = [v] ∧ Dp X.K H v d ∧ X.A.guards = some [] ∧ d.showable = true ∧ d.hasDict = false ∧ d.depth ≤ 190 ∧ d.shown.length ≤ sizeLine ∧ Q (.str d.shown) H
theorem call_reprW {X : Cx} {k : Nat} (hr : Room k X.A) : CallR X (.builtin "repr") (rReprW X) := by
  intro pins s σ H xs us Q I r h
  obtain ⟨v, d, e, hd, hg, hs, hn, hz, hl, q⟩ := h
  subst e
  obtain ⟨u, rfl, ru⟩ := vals1 r
  have un := hr.un
  have isRef : ∀ a, v = .ref a → wpAny (model X.prog X.w) X.A (call (.builtin "repr") [u]) (fun w' s' => ∃ z H', Inv X pins σ H' s' ∧ RelV z w' ∧ Q z H') X.xe s := fun a e => by
    subst e
    obtain ⟨as, rd⟩ := Dp.reads I d _ _ hd ru
    cases (show u = Value.ref a from ru)
    exact repr_of_reads' rd hs (PyData.noDict_hsm hn) hg (by omega) (fun _ _ z => z) (fun h' t tk keep => ⟨.str d.shown, H, I.kept keep, ⟨t, rfl⟩, q⟩) hl
  cases hd with
  | non =>
    cases (show u = Value.none from ru)
    exact PySem.P.repr_of_none ⟨.str _, H, I.tok _, ⟨_, rfl⟩, q⟩
  | bl b =>
    cases (show u = Value.bool b from ru)
    exact PySem.P.repr_of_bool ⟨.str _, H, I.tok _, ⟨_, rfl⟩, q⟩
  | int i =>
    obtain ⟨t, e⟩ := (show ∃ t, u = Value.int i t from ru)
    subst e
    exact PySem.P.repr_of_int (by rw [PyData.showable] at hs; exact of_decide_eq_true hs) ⟨.str _, H, I.tok _, ⟨_, rfl⟩, q⟩
  | str x =>
    obtain ⟨t, e⟩ := (show ∃ t, u = Value.str x t from ru)
    subst e
    exact PySem.P.repr_of_str ⟨.str _, H, I.tok _, ⟨_, rfl⟩, q⟩ hl
  | lst _ _ => exact isRef _ rfl
  | tup _ _ => exact isRef _ rfl
end Dw
end
section
/-! min and sum of a tuple of numbers -/
namespace Dw
open PySem PySem.Spec PyProof.Rows PyProof.V L2 Evl PySem.W
theorem minOf_le : ∀ (xs : List Int) (x : Int), (∀ y ∈ x :: xs, minOf x xs ≤ y) ∧ minOf x xs ∈ x :: xs
  | [], x => ⟨fun y hy => by rw [List.mem_singleton.mp hy]; exact Int.le_refl _, List.mem_cons_self ..⟩
  | z :: xs, x => by
    have e : minOf x (z :: xs) = minOf (if z < x then z else x) xs := by
      unfold minOf
      rw [List.foldl_cons]
      congr 1
      show (if decide (z < x) = true then z else x) = _
      by_cases h : z < x
      · rw [decide_eq_true h, if_pos rfl, if_pos h]
      · rw [decide_eq_false h, if_neg Bool.false_ne_true, if_neg h]
    obtain ⟨a, b⟩ := minOf_le xs (if z < x then z else x)
    rw [e]
    have c := a _ (List.mem_cons_self ..)
    refine ⟨fun y hy => ?_, ?_⟩
    · rcases List.mem_cons.mp hy with rfl | hy
      · split at c
        · rename_i h; rw [if_pos h]; omega
        · rename_i h; rw [if_neg h]; exact c
      · rcases List.mem_cons.mp hy with rfl | hy
        · split at c
          · rename_i h; rw [if_pos h]; exact c
          · rename_i h; rw [if_neg h]; omega
        · exact a y (List.mem_cons_of_mem _ hy)
    · rcases List.mem_cons.mp b with b | b
      · rw [b]
        split
        · exact List.mem_cons_of_mem _ (List.mem_cons_self ..)
        · exact List.mem_cons_self ..
      · exact List.mem_cons_of_mem _ (List.mem_cons_of_mem _ b)
def rMinT (K : PySem.W.Frag) : List V → Hp → VK → Prop := fun vs H Q => ∃ (a : Addr) (ns : List Int), vs = [V.ref a] ∧ SqT K H a (ns.map V.int) ∧ 0 < ns.length ∧ ∀ m, m ∈ ns → (∀ y, y ∈ ns → m ≤ y) → Q (.int m) H
theorem cr_minT {X : Cx} {k : Nat} (hc : X.calm = true) (hr : Room k X.A) : CallR X (.builtin "min") (rMinT X.K) := by
  intro pins s σ H vs us Q I r h
  obtain ⟨a, ns, rfl, hs, hne, q⟩ := h
  obtain ⟨its, rv, hl, _⟩ := I.tuple hs
  rw [Vals.ref1 r]
  cases ns with
  | nil => exact absurd hne (Nat.lt_irrefl 0)
  | cons x xs =>
    have hi : IntsAre its.toArray.toList (x :: xs) := by rw [List.toList_toArray]; exact ints_of rv
    have hu := hr.units
    have ho : HoldAll s.heap its.toArray.toList (x :: xs) := ⟨[], ints_readAll _ hi⟩
    refine min_tuple_datum (α := Int) (I.ok.hd hc) hl ho (by show X.A.units + 1 + 0 < _; omega) fun i v h' tk hv ho2 hk => ?_
    obtain ⟨a2, b2⟩ := minOf_le xs x
    obtain ⟨as, rd⟩ := ho2
    have rd' : Reads h' v (.int (minOf x xs)) as := rd
    cases rd' with
    | int _ t => exact ⟨.int _, H, I.kept hk, ⟨t, rfl⟩, q _ b2 a2⟩
def rSumT (K : PySem.W.Frag) : List V → Hp → VK → Prop := fun vs H Q => ∃ (a : Addr) (ns : List Int), vs = [V.ref a] ∧ SqT K H a (ns.map V.int) ∧ Q (.int ns.sum) H
theorem cr_sumT {X : Cx} (hc : X.calm = true) : CallR X (.builtin "sum") (rSumT X.K) := by
  intro pins s σ H vs us Q I r h
  obtain ⟨a, ns, rfl, hs, q⟩ := h
  obtain ⟨its, rv, hl, _⟩ := I.tuple hs
  rw [Vals.ref1 r]
  have hi : IntsAre its ns := ints_of rv
  obtain ⟨xs, hx⟩ := hi.allInts.items
  have hn : numsOf its.toArray.toList = ns := by rw [show its.toArray.toList = its from rfl, hi.numsOf]
  rw [hx] at hl hn
  rw [nums_intItems] at hn
  refine ktm_sumG (I.ok.hd hc) hl fun h' tk t' hk => ⟨.int ns.sum, H, I.kept hk, ⟨t', ?_⟩, q⟩
  rw [preSum_eq, List.take_of_length_le (by simp), hn]
theorem sum_ints : ∀ ns : List Nat, (ns.map fun k => ((k : Nat) : Int)).sum = ((ns.sum : Nat) : Int)
  | [] => rfl
  | x :: r => by rw [List.map_cons, List.sum_cons, List.sum_cons, sum_ints r, Int.natCast_add]
section
variable {K : PySem.W.Frag} {σ : L2.St} {H : Hp} {te : TE}
/-- sum(t) of numbers is a number -/
theorem ep_sumT {ns : List Nat} {P : V → Hp → Prop} (h : EvP te σ H P) (hp : ∀ v H1, P v H1 → Nats K H1 v ns) : Ev (tCB (rSumT K) (tCons te tNil)) σ H (vi ns.sum) := fun H1 e Q q =>
  h H1 e _ fun v H2 e2 hv => by
    obtain ⟨a, rfl, s⟩ := hp v H2 hv
    refine ⟨a, ns.map fun k => ((k : Nat) : Int), rfl, by rw [List.map_map]; exact s, ?_⟩
    rw [sum_ints ns]
    exact q H2 e2
theorem ep_maxT {ns : List Nat} (h : EvP te σ H (fun v H' => Nats K H' v ns)) (ne : ns ≠ []) : EvP (tCB (rMaxT K) (tCons te tNil)) σ H (fun v _ => ∃ k ∈ ns, v = vi k) := fun H1 e Q q =>
  h H1 e _ fun v H2 e2 ⟨a, hv, s⟩ => by
    subst hv
    refine ⟨a, ns.map fun k => ((k : Nat) : Int), rfl, by rw [List.map_map]; exact s, by rw [List.length_map]; exact List.length_pos_iff.mpr ne, fun m hm _ => ?_⟩
    obtain ⟨k, hk, rfl⟩ := List.mem_map.mp hm
    exact q _ H2 e2 ⟨k, hk, rfl⟩
theorem ep_minT {ns : List Nat} (h : EvP te σ H (fun v H' => Nats K H' v ns)) (ne : ns ≠ []) : EvP (tCB (rMinT K) (tCons te tNil)) σ H (fun v _ => ∃ k ∈ ns, v = vi k) := fun H1 e Q q =>
  h H1 e _ fun v H2 e2 ⟨a, hv, s⟩ => by
    subst hv
    refine ⟨a, ns.map fun k => ((k : Nat) : Int), rfl, by rw [List.map_map]; exact s, by rw [List.length_map]; exact List.length_pos_iff.mpr ne, fun m hm _ => ?_⟩
    obtain ⟨k, hk, rfl⟩ := List.mem_map.mp hm
    exact q _ H2 e2 ⟨k, hk, rfl⟩
end
end Dw
end
section
/-! closed lists of numbers: the mathematics -/
namespace CL
open M20 M25
/-- the place of a row -/
def plc (n : Nat) (ns : List Nat) : Nat := ns.foldl (fun acc k => acc * n + k) 0
theorem plc_low {n : Nat} : ∀ {ns : List Nat}, (∀ k ∈ ns, k < n) → ns.length ≤ 2 → plc n ns < n ^ ns.length
  | [], _, _ => by
    show 0 < n ^ 0
    rw [Nat.pow_zero]
    decide
  | [a], h, _ => by
    have := h a (List.mem_singleton.mpr rfl)
    show 0 * n + a < n ^ 1
    rw [Nat.pow_one, Nat.zero_mul, Nat.zero_add]
    exact this
  | [a, b], h, _ => by
    have ha := h a (List.mem_cons_self ..)
    have hb := h b (List.mem_cons_of_mem _ (List.mem_singleton.mpr rfl))
    show (0 * n + a) * n + b < n ^ 2
    rw [Nat.zero_mul, Nat.zero_add, Nat.pow_two]
    have : (a + 1) * n ≤ n * n := Nat.mul_le_mul_right n ha
    rw [Nat.add_mul, Nat.one_mul] at this
    omega
  | _ :: _ :: _ :: _, _, h => absurd h (by simp)
theorem plc_take {n : Nat} {ns : List Nat} {i k : Nat} (h : ns[i]? = some k) : plc n (ns.take (i + 1)) = plc n (ns.take i) * n + k := by
  unfold plc
  rw [List.take_add_one, h, List.foldl_append]
  rfl
theorem rows_plc {n p : Nat} (p2 : p ≤ 2) (n1 : 0 < n) {i : Nat} (h : i < n ^ p) : ∃ r, (rows n p)[i]? = some r ∧ plc n r = i := by
  match p, p2, h with
  | 0, _, h =>
    rw [Nat.pow_zero] at h
    have : i = 0 := by omega
    subst this
    exact ⟨[], rfl, rfl⟩
  | 1, _, h =>
    rw [Nat.pow_one] at h
    refine ⟨[i], ?_, by show 0 * n + i = i; omega⟩
    rw [rows_1, List.getElem?_map, List.getElem?_range h]
    rfl
  | 2, _, h =>
    rw [Nat.pow_two] at h
    refine ⟨[i / n, i % n], ?_, ?_⟩
    · rw [rows_2 n1, List.getElem?_map, List.getElem?_range h]
      rfl
    · show (0 * n + i / n) * n + i % n = i
      rw [Nat.zero_mul, Nat.zero_add, Nat.mul_comm]
      exact Nat.div_add_mod i n
theorem rows_plc' {n p : Nat} (p2 : p ≤ 2) (n1 : 0 < n) {i : Nat} {r : List Nat} (h : (rows n p)[i]? = some r) : plc n r = i ∧ i < n ^ p := by
  have hi := (List.getElem?_eq_some_iff.mp h).1
  rw [rows_len'] at hi
  obtain ⟨r', e, q⟩ := rows_plc p2 n1 hi
  rw [h] at e
  rw [Option.some.inj e]
  exact ⟨q, hi⟩
section
variable {α : Type}
/-- the cells of a model with their worths -/
def cws (n : Nat) (sg : List (α × Nat)) (ts : List (List Nat)) : List (α × List Nat × Nat) := (sg.zip ts).flatMap fun x => ((rows n x.1.2).zip x.2).map fun y => (x.1.1, y.1, y.2)
theorem cws_mem {n : Nat} {sg : List (α × Nat)} {ts : List (List Nat)} {c : α × List Nat × Nat} : c ∈ cws n sg ts ↔ ∃ (i : Nat) (d : α × Nat) (t : List Nat) (j : Nat) (r : List Nat), sg[i]? = some d ∧ ts[i]? = some t ∧ (rows n d.2)[j]? = some r ∧ t[j]? = some c.2.2 ∧ c.1 = d.1 ∧ c.2.1 = r := by
  unfold cws
  rw [List.mem_flatMap]
  constructor
  · rintro ⟨⟨d, t⟩, hx, hc⟩
    obtain ⟨i, hi⟩ := List.mem_iff_getElem?.mp hx
    obtain ⟨⟨r, w⟩, hy, e⟩ := List.mem_map.mp hc
    obtain ⟨j, hj⟩ := List.mem_iff_getElem?.mp hy
    rw [List.getElem?_zip_eq_some] at hi hj
    subst e
    exact ⟨i, d, t, j, r, hi.1, hi.2, hj.1, hj.2, rfl, rfl⟩
  · rintro ⟨i, d, t, j, r, h1, h2, h3, h4, h5, h6⟩
    refine ⟨(d, t), List.mem_iff_getElem?.mpr ⟨i, List.getElem?_zip_eq_some.mpr ⟨h1, h2⟩⟩, ?_⟩
    refine List.mem_map.mpr ⟨(r, c.2.2), List.mem_iff_getElem?.mpr ⟨j, List.getElem?_zip_eq_some.mpr ⟨h3, h4⟩⟩, ?_⟩
    obtain ⟨a, b, d'⟩ := c
    show (d.1, r, d') = (a, b, d')
    rw [← h5, ← h6]
/-- all arguments are among these -/
def among (r S : List Nat) : Bool := r.all fun a => decide (a ∈ S)
/-- a cell leads out of a list -/
def outs (S : List Nat) (c : α × List Nat × Nat) : Bool := !decide (c.2.2 ∈ S) && among c.2.1 S
def closed (cs : List (α × List Nat × Nat)) (S : List Nat) : Bool := cs.all fun c => !outs S c
end
/-! ### rising lists -/
def sub : Nat → List (List Nat)
  | 0 => [[]]
  | k + 1 => sub k ++ (sub k).map (· ++ [k])
/-! ### building -/
section
variable {α : Type}
/-- steps: numbers given, then worths of cells of what is there -/
inductive Built (cs : List (α × List Nat × Nat)) (ms : List Nat) : List (Nat × Option (α × List Nat)) → Prop where
  | base : Built cs ms (ms.map fun k => (k, none))
  | step {st : List (Nat × Option (α × List Nat))} {c : α × List Nat × Nat} : Built cs ms st → c ∈ cs → c.2.2 ∉ st.map (·.1) → (∀ a ∈ c.2.1, a ∈ st.map (·.1)) → Built cs ms (st ++ [(c.2.2, some (c.1, c.2.1))])
theorem Built.low {cs : List (α × List Nat × Nat)} {ms : List Nat} {st : List (Nat × Option (α × List Nat))} {n : Nat} (l1 : ∀ k ∈ ms, k < n) (l2 : ∀ c ∈ cs, c.2.2 < n) (h : Built cs ms st) : ∀ k ∈ st.map (·.1), k < n := by
  induction h with
  | base =>
    intro k hk
    obtain ⟨x, hx, rfl⟩ := List.mem_map.mp hk
    obtain ⟨y, hy, rfl⟩ := List.mem_map.mp hx
    exact l1 _ hy
  | step b hc hn ha ih =>
    intro k hk
    rw [List.map_append] at hk
    rcases List.mem_append.mp hk with z | z
    · exact ih k z
    · rw [List.mem_singleton.mp z]
      exact l2 _ hc
end
end CL
end
section
/-! lists of lists of numbers, each at its own new place -/
namespace Dw
open PySem PySem.Spec PyProof.Rows L2 Evl PySem.W M25
/-- a list of numbers at its place -/
def LN (H : Hp) (v : V) (ns : List Nat) : Prop := ∃ a, v = .ref a ∧ H a = some (.lst (ns.map vi))
theorem LN.ex {H H' : Hp} {v : V} {ns : List Nat} (e : Ex H H') (h : LN H v ns) : LN H' v ns := let ⟨a, q, s⟩ := h; ⟨a, q, e _ _ s⟩
theorem dp_ln {K : PySem.W.Frag} {H : Hp} {b : Addr} {ns : List Nat} (h : H b = some (.lst (ns.map vi))) : Dp K H (.ref b) (dL ns) := .lst (sq_of h) (dps_nats ns)
/-- a new list of new lists, all at places of their own, none there in H0 -/
structure LLs (H0 H : Hp) (a : Addr) (as : List Addr) (L : List (List Nat)) : Prop where
  at_ : H a = some (.lst (as.map V.ref))
  new : H0 a = none
  each : Paired (fun b ns => H b = some (.lst (ns.map vi)) ∧ H0 b = none) as L
  nd : as.Nodup
  ne : a ∉ as
theorem LLs.ex {H0 H H' : Hp} {a : Addr} {as : List Addr} {L : List (List Nat)} (e : Ex H H') (h : LLs H0 H a as L) : LLs H0 H' a as L := ⟨e _ _ h.at_, h.new, paired_imp (fun _ _ z => ⟨e _ _ z.1, z.2⟩) h.each, h.nd, h.ne⟩
theorem LLs.low {H0 H1 H : Hp} {a : Addr} {as : List Addr} {L : List (List Nat)} (e : Ex H0 H1) (h : LLs H1 H a as L) : LLs H0 H a as L := ⟨h.at_, fresh_back e h.new, paired_imp (fun _ _ z => ⟨z.1, fresh_back e z.2⟩) h.each, h.nd, h.ne⟩
theorem LLs.len {H0 H : Hp} {a : Addr} {as : List Addr} {L : List (List Nat)} (h : LLs H0 H a as L) : as.length = L.length := paired_len h.each
theorem LLs.some {H0 H : Hp} {a : Addr} {as : List Addr} {L : List (List Nat)} (h : LLs H0 H a as L) {b : Addr} (hb : b ∈ as) : ∃ ns, ns ∈ L ∧ H b = some (.lst (ns.map vi)) ∧ H0 b = none := by
  obtain ⟨i, hi⟩ := List.mem_iff_getElem?.mp hb
  obtain ⟨ns, e, q⟩ := paired_at h.each hi
  exact ⟨ns, List.mem_iff_getElem?.mpr ⟨i, e⟩, q⟩
theorem dps_lls {K : PySem.W.Frag} {H : Hp} : ∀ {as : List Addr} {L : List (List Nat)}, Paired (fun b ns => H b = some (.lst (ns.map vi))) as L → DpAll K H (as.map V.ref) (L.map dL)
  | _, _, .nil => .nil
  | _, _, .cons a b => .cons (dp_ln a) (dps_lls b)
theorem LLs.dp {K : PySem.W.Frag} {H0 H : Hp} {a : Addr} {as : List Addr} {L : List (List Nat)} (h : LLs H0 H a as L) : Dp K H (.ref a) (.list (L.map dL)) := .lst (sq_of h.at_) (dps_lls (paired_imp (fun _ _ z => z.1) h.each))
section
variable {K : PySem.W.Frag} {σ : L2.St} {H : Hp} {te tl : TE} {tt : TT} {g : TG} {vs : List Nat} {Q : VK}
/-- the source of a comprehension, read first -/
theorem lc_src (h : tl σ H fun x H1 => tLc (iList K (tC x)) g tt te vs σ H1 Q) : tLc (iList K tl) g tt te vs σ H Q := h
end
section
variable {K : PySem.W.Frag} {σ : L2.St} {H : Hp} {te tl : TE} {tt : TT} {g : TG} {vs : List Nat} {Q : VK}
/-- those of them that fit -/
theorem paired_filt {H0 H : Hp} {f : Nat → Bool} {f' : List Nat → Bool} : ∀ {as : List Addr} {L : List (List Nat)}, Paired (fun b ns => H b = some (.lst (ns.map vi)) ∧ H0 b = none) as L → (∀ i (h : i < L.length), f i = f' L[i]) →
    ∃ bs, given as.length f (fun i => .ref (as.getD i 0)) = bs.map V.ref ∧ bs.Sublist as ∧ Paired (fun b ns => H b = some (.lst (ns.map vi)) ∧ H0 b = none) bs (L.filter f') := by
  intro as
  have main : ∀ (m : Nat) (as : List Addr), as.length = m → ∀ {L : List (List Nat)}, Paired (fun b ns => H b = some (.lst (ns.map vi)) ∧ H0 b = none) as L → (∀ i (h : i < L.length), f i = f' L[i]) →
      ∃ bs, given as.length f (fun i => .ref (as.getD i 0)) = bs.map V.ref ∧ bs.Sublist as ∧ Paired (fun b ns => H b = some (.lst (ns.map vi)) ∧ H0 b = none) bs (L.filter f') := by
   intro m
   induction m with
   | zero =>
    intro as h0 L p _
    cases as with
    | nil => cases p; exact ⟨[], rfl, .slnil, .nil⟩
    | cons x r => cases h0
   | succ m ih0 =>
    intro as0 h0 L p hf
    have ne0 : as0 ≠ [] := fun z => by rw [z] at h0; cases h0
    obtain ⟨as, b, rfl⟩ : ∃ as b, as0 = as ++ [b] := ⟨_, _, (List.dropLast_concat_getLast ne0).symm⟩
    rw [List.length_append, List.length_singleton] at h0
    have ih := fun {L : List (List Nat)} => ih0 as (by omega) (L := L)
    clear ih0 ne0
    have ll := paired_len p
    rw [List.length_append, List.length_singleton] at ll
    obtain ⟨L', ns, rfl⟩ : ∃ L' ns, L = L' ++ [ns] := by
      have ne : L ≠ [] := fun z => by rw [z] at ll; cases ll
      exact ⟨_, _, (List.dropLast_concat_getLast ne).symm⟩
    rw [List.length_append, List.length_singleton] at ll
    have l2 : as.length = L'.length := by omega
    have p1 : Paired (fun b ns => H b = some (.lst (ns.map vi)) ∧ H0 b = none) as L' ∧ (H b = some (.lst (ns.map vi)) ∧ H0 b = none) := by
      clear ih hf ll h0
      induction as generalizing L' with
      | nil =>
        cases L' with
        | nil => cases p with | cons q r => exact ⟨.nil, q⟩
        | cons y r => cases l2
      | cons x as ih2 =>
        cases L' with
        | nil => cases l2
        | cons y r =>
          cases p with
          | cons q t =>
            obtain ⟨u, v⟩ := ih2 r t (by simpa using l2)
            exact ⟨.cons q u, v⟩
    obtain ⟨bs, e, sl, pb⟩ := ih p1.1 fun i h => by
      rw [hf i (by rw [List.length_append]; omega), List.getElem_append_left h]
    have e' : given as.length f (fun i => V.ref ((as ++ [b]).getD i 0)) = bs.map V.ref := by
      rw [← e]
      unfold Evl.given
      refine List.map_congr_left fun i hi => ?_
      have := List.mem_range.mp (List.mem_filter.mp hi).1
      rw [List.getD_eq_getElem?_getD, List.getD_eq_getElem?_getD, List.getElem?_append_left this]
    have fl : f as.length = f' ns := by
      rw [hf as.length (by rw [List.length_append, List.length_singleton]; omega)]
      congr 1
      simp [l2]
    rw [List.length_append, List.length_singleton, List.filter_append]
    cases hb : f' ns with
    | true =>
      rw [given_yes (by rw [fl, hb])]
      refine ⟨bs ++ [b], ?_, List.Sublist.append sl (List.Sublist.refl _), ?_⟩
      · rw [e', List.map_append]
        simp [List.getD_eq_getElem?_getD]
      · rw [List.filter_cons_of_pos hb, List.filter_nil]
        exact paired_snoc' (R := fun b ns => H b = some (.lst (ns.map vi)) ∧ H0 b = none) (x := b) (y := ns) p1.2 pb
    | false =>
      rw [given_no (by rw [fl, hb])]
      refine ⟨bs, e', sl.trans (List.sublist_append_left _ _), ?_⟩
      rw [List.filter_cons_of_neg (by rw [hb]; decide), List.filter_nil, List.append_nil]
      exact pb
  exact fun {L} => main as.length as rfl (L := L)
theorem do_lcFit {H0 : Hp} {a : Addr} {as : List Addr} {L : List (List Nat)} {f : List Nat → Bool} {j : Nat} (h : Ev tl σ H (.ref a)) (ll : LLs H0 H a as L) (h0 : Ex H0 H) (hn : L.length ≤ 40000) (hwp : ∀ x, wipe ((wipe σ vs).set j (some x)) vs = wipe σ vs)
    (hj : ∀ x, ((wipe σ vs).set j (some x))[j]? = some (some x))
    (hs : ∀ b ns H1, Ex H H1 → ns ∈ L → H1 b = some (.lst (ns.map vi)) → EvT tt ((wipe σ vs).set j (some (.ref b))) H1 (f ns))
    (k : ∀ p bs H1, Ex H H1 → bs.Sublist as → LLs H0 H1 p bs (L.filter f) → Q (.ref p) H1) : tLc (iList K tl) (gName j) tt (tVar j) vs σ H Q := by
  have la := ll.len
  refine el_lcL (K := K) (fun i => f (L.getD i [])) (fun i => .ref (as.getD i 0)) h (sq_of ll.at_) (by rw [List.length_map]; omega) hwp (fun i x H1 e1 hxi => ?_) (fun i x H1 e1 hxi _ => ?_) H (Ex.refl _) _ fun p H1 np e1 hp => ?_
  · rw [List.getElem?_map] at hxi
    cases hb : as[i]? with
    | none => rw [hb] at hxi; cases hxi
    | some b =>
      rw [hb] at hxi
      cases Option.some.inj hxi
      obtain ⟨ns, hns, q, _⟩ := paired_at ll.each hb
      have e1' : L.getD i [] = ns := by rw [List.getD_eq_getElem?_getD, hns]; rfl
      have e2' : as.getD i 0 = b := by rw [List.getD_eq_getElem?_getD, hb]; rfl
      show EvT tt _ H1 (f (L.getD i []))
      rw [e1']
      exact hs b ns H1 e1 (List.mem_iff_getElem?.mpr ⟨i, hns⟩) (e1 _ _ q)
  · rw [List.getElem?_map] at hxi
    cases hb : as[i]? with
    | none => rw [hb] at hxi; cases hxi
    | some b =>
      rw [hb] at hxi
      cases Option.some.inj hxi
      have e2' : as.getD i 0 = b := by rw [List.getD_eq_getElem?_getD, hb]; rfl
      show Ev _ _ H1 (.ref (as.getD i 0))
      rw [e2']
      exact ev_var (hj _)
  · obtain ⟨bs, e, sl, pb⟩ := paired_filt (f := fun i => f (L.getD i [])) (f' := f) ll.each fun i hi => by
      show f (L.getD i []) = f L[i]
      rw [List.getD_eq_getElem?_getD, List.getElem?_eq_getElem hi]
      rfl
    rw [List.length_map, e] at hp
    refine k p bs H1 e1 sl ⟨hp, fresh_back h0 np, paired_imp (fun _ _ z => ⟨e1 _ _ z.1, z.2⟩) pb, ll.nd.sublist sl, fun z => ?_⟩
    obtain ⟨ns, _, q, _⟩ := ll.some (sl.subset z)
    rw [q] at np
    cases np
end
section
variable {K : PySem.W.Frag} {σ : L2.St} {H : Hp} {D : Ends} {tu tz : TS} {g : TG}
/-- a loop over what is walked, as tFor has it behind its source -/
def Loops (J : It) (g : TG) (tu : TS) (D : Ends) (σ : L2.St) (H1 : Hp) : Prop := ∃ W : Nat → Nat → L2.St → Hp → Prop, (∃ m, W 0 m σ H1) ∧ ∀ i m σ H, W i m σ H →
  (J.stop i H ∧ D.nx σ H) ∨ (J.go i H ∧ ∃ N : L2.St → Hp → Prop, (∀ σ' H', N σ' H' → ∃ m', m' < m ∧ W (i + 1) m' σ' H') ∧ ∀ x H', J.yld i H x H' → g x σ H' fun σ2 H2 => tu { D with nx := N, ct := N, bk := D.nx } σ2 H2)
/-- for .. in zip(a list, a tuple) -/
theorem s_zipM {ta : TA} (h : ta σ H fun vs H1 => ∃ a b xs ys, vs = [.ref a, .ref b] ∧ SqL K H1 a xs ∧ SqT K H1 b ys ∧ Loops (ItzM K a b) g tu D σ H1) : tFor (iZipM K ta) g tu D σ H := h
theorem s_forLs {tl : TE} (h : tl σ H fun x H1 => ∃ a, x = .ref a ∧ (∃ xs, SqL K H1 a xs) ∧ Loops (Itl K a) g tu D σ H1) : tFor (iList K tl) g tu D σ H := h
theorem q_forLs {tl : TE} (h : tl σ H fun x H1 => ∃ a, x = .ref a ∧ (∃ xs, SqL K H1 a xs) ∧ Loops (Itl K a) g tu { D with nx := tz D } σ H1) : tSeq (tFor (iList K tl) g tu) tz D σ H := h
theorem loops_list {a : Addr} {xs : List V} (Pv : Nat → L2.St → Hp → Prop) (h0 : Pv 0 σ H) (hk : ∀ i σ' H', i ≤ xs.length → Pv i σ' H' → SqL K H' a xs)
    (hs : ∀ i x σ' H', xs[i]? = some x → Pv i σ' H' → g x σ' H' fun σ2 H2 => tu { D with nx := Pv (i + 1), ct := Pv (i + 1), bk := D.nx } σ2 H2) (hd : ∀ σ' H', Pv xs.length σ' H' → D.nx σ' H') : Loops (Itl K a) g tu D σ H :=
  for_it (walk_list (K := K) (a := a) (xs := xs)) Pv h0 hk (fun i v σ' H2 H3 hi p y => by
    obtain ⟨rfl, e1⟩ := y
    exact hs i v σ' _ e1 p) hd
theorem loops_zipM {a b : Addr} {xs ys : List V} (hl : xs.length = ys.length) (Pv : Nat → L2.St → Hp → Prop) (h0 : Pv 0 σ H) (hk : ∀ i σ' H', i ≤ xs.length → Pv i σ' H' → SqL K H' a xs ∧ SqT K H' b ys)
    (hs : ∀ i x y T σ' H', xs[i]? = some x → ys[i]? = some y → Pv i σ' H' → H' T = none → g (.ref T) σ' (upd H' T (.tup [x, y])) fun σ2 H2 => tu { D with nx := Pv (i + 1), ct := Pv (i + 1), bk := D.nx } σ2 H2) (hd : ∀ σ' H', Pv xs.length σ' H' → D.nx σ' H') : Loops (ItzM K a b) g tu D σ H :=
  for_it (walk_zipM (n := xs.length) (by omega)) Pv h0 hk (fun i v σ' H2 H3 hi p y => by
    obtain ⟨T, x1, x2, rfl, nT, rfl, e1, e2⟩ := y
    exact hs i x1 x2 T σ' H2 e1 e2 p nT) hd
end
section
variable {K : PySem.W.Frag} {σ : L2.St} {H : Hp} {D : Ends} {tu tz : TS} {g : TG}
theorem qloops_list {a : Addr} {xs : List V} (Pv : Nat → L2.St → Hp → Prop) (h0 : Pv 0 σ H) (hk : ∀ i σ' H', i ≤ xs.length → Pv i σ' H' → SqL K H' a xs)
    (hs : ∀ i x σ' H', xs[i]? = some x → Pv i σ' H' → g x σ' H' fun σ2 H2 => tu { D with nx := Pv (i + 1), ct := Pv (i + 1), bk := tz D } σ2 H2) (hd : ∀ σ' H', Pv xs.length σ' H' → tz D σ' H') : Loops (Itl K a) g tu { D with nx := tz D } σ H :=
  loops_list (D := { D with nx := tz D }) Pv h0 hk hs hd
end
section
variable {K : PySem.W.Frag} {σ : L2.St} {H : Hp} {D : Ends} {ta te : TE} {tt : TT} {tz : TS} {P : V → Hp → Prop}
theorem q_appP' {l : Addr} {xs : List V} (hl : H l = some (.lst xs)) (ha : Ev ta σ H (.ref l)) (h : EvP te σ H P) (hz : xs.length < 100000) (k : ∀ v H1, Ex H H1 → P v H1 → tz D σ (upd H1 l (.lst (xs ++ [v])))) : tSeq (tDrop (tBM K "list" rAppend ta (tCons te tNil))) tz D σ H :=
  s_appP (D := { D with nx := tz D }) hl ha h hz k
theorem paired_eqs {u : Nat → V} : ∀ {ws : List V} {is : List Nat}, Paired (fun v i => v = u i) ws is → ws = is.map u
  | _, _, .nil => rfl
  | _, _, .cons a b => by rw [List.map_cons, paired_eqs b, a]
end
section
variable {σ : L2.St} {H : Hp}
theorem ep_callF {α : Type} {pre : α → List V → Hp → Prop} {post : α → V → Hp → Prop} (a : α) {vs : List V} {E : XK} {ta : TA} (h : EvA ta σ H vs) (hp : ∀ H1, Ex H H1 → pre a vs H1) : EvP (tCall (spF pre post) [] E ta) σ H (fun v H' => post a v H' ∧ ∀ d, v = .ref d → H d = none) := fun H1 e Q q =>
  h H1 e _ fun H2 e2 => by
    rw [List.append_nil]
    exact ⟨a, hp H2 (e.trans e2), fun v H3 e3 p n => q v H3 (e2.trans e3) ⟨p, fun d z => fresh_back (e.trans e2) (n d z)⟩⟩
end
section
variable {K : PySem.W.Frag} {σ : L2.St} {H : Hp} {te : TE} {w : World}
end
section
variable {K : PySem.W.Frag} {σ : L2.St} {H : Hp} {ta tb te : TE}
end
section
variable {K : PySem.W.Frag} {σ : L2.St} {H : Hp} {ta tb te : TE} {Q : VK}
theorem paired_zip {α β : Type} {R : α → β → Prop} : ∀ {xs : List α} {ys : List β}, Paired R xs ys → (xs.zip ys).map (·.1) = xs ∧ (xs.zip ys).map (·.2) = ys ∧ ∀ q ∈ xs.zip ys, R q.1 q.2
  | _, _, .nil => ⟨rfl, rfl, fun _ z => nomatch z⟩
  | _, _, .cons a b => by
    obtain ⟨e1, e2, h⟩ := paired_zip b
    refine ⟨by rw [List.zip_cons_cons, List.map_cons, e1], by rw [List.zip_cons_cons, List.map_cons, e2], fun q hq => ?_⟩
    rw [List.zip_cons_cons] at hq
    rcases List.mem_cons.mp hq with z | z
    · rw [z]; exact a
    · exact h q z
theorem zip_paired {α β : Type} {R : α → β → Prop} : ∀ {qs : List (α × β)}, (∀ q ∈ qs, R q.1 q.2) → Paired R (qs.map (·.1)) (qs.map (·.2))
  | [], _ => .nil
  | q :: qs, h => .cons (h q (List.mem_cons_self ..)) (zip_paired fun x hx => h x (List.mem_cons_of_mem _ hx))
end
section
variable {K : PySem.W.Frag} {σ : L2.St} {H : Hp} {D : Ends} {tu tz : TS} {g : TG}
/-- a comprehension over a tuple, any target -/
theorem elp_lcTg {te : TE} {tt : TT} {g : TG} {a : Addr} {xs : List V} {tl : TE} {vs : List Nat} (h : Ev tl σ H (.ref a)) (hx : SqT K H a xs) (hn : xs.length ≤ 40000) (f : Nat → Bool) (B : V → Nat → Hp → Prop) (hB : StbB B)
    (hs : ∀ (i : Nat) (x : V) (H1 : Hp), Ex H H1 → xs[i]? = some x → ∀ Φ : L2.St → Hp → Prop, (∀ σ2, wipe σ2 vs = wipe σ vs → EvT tt σ2 H1 (f i) → (f i = true → EvP te σ2 H1 (fun v H' => B v i H')) → Φ σ2 H1) → g x (wipe σ vs) H1 Φ) :
    EvLP (tLc (iTup K tl) g tt te vs) σ H (fun ws H' => Paired (fun v i => B v i H') ws ((List.range xs.length).filter f)) :=
  elp_lc (walk_tup (K := K) (a := a) (xs := xs)) (fun H0 e0 R r => w_tup h hx H0 e0 R r) (fun H1 e1 => ex_t e1 hx) hn f B hB fun i x H1 H2 hi e y => by
    obtain ⟨rfl, hxi⟩ := y
    exact ⟨Ex.refl _, fun Φ k => hs i x _ e hxi Φ k⟩
/-- list.index of texts, the list by what holds of it -/
theorem ev_sindex {to te : TE} {ys : List Str} {z : Str} (h : EvL to σ H (ys.map V.str)) (hz : Ev te σ H (.str z)) (mem : z ∈ ys) : Ev (tBM K "list" (rIndex K) to (tCons te tNil)) σ H (vi (ys.idxOf z)) := fun H1 e Q q =>
  h H1 e _ fun a H2 na e2 ha => ⟨Or.inl ⟨rfl, _, sq_of ha⟩, hz H2 (e.trans e2) _ fun H3 e3 => by
    have hi : ys.idxOf z < ys.length := List.idxOf_lt_length_iff.mpr mem
    refine ⟨a, ys.map V.str, .str z, ys.idxOf z, .str z, rfl, rfl, sq_of (e3 _ _ ha), rfl, List.all_eq_true.mpr fun v hv => by obtain ⟨y, _, rfl⟩ := List.mem_map.mp hv; rfl, ?_, by show (z == z) = true; exact beq_self_eq_true z, fun m z' hm hz' => ?_, q H3 (e2.trans e3)⟩
    · rw [List.getElem?_map, List.getElem?_eq_getElem hi, List.getElem_idxOf hi]
      rfl
    · rw [List.getElem?_map, List.getElem?_eq_getElem (by omega)] at hz'
      rw [← Option.some.inj hz']
      show (ys[m] == z) = false
      have := List.not_of_lt_findIdx (p := (· == z)) (xs := ys) (i := m) hm
      simpa using this⟩
end
theorem range_getD {β : Type} (d : β) (r : List β) : (List.range r.length).map (fun i => r.getD i d) = r := by
  apply List.ext_getElem?
  intro i
  by_cases hi : i < r.length
  · rw [List.getElem?_map, List.getElem?_range hi, List.getElem?_eq_getElem hi]
    show some (r.getD i d) = _
    rw [List.getD_eq_getElem?_getD, List.getElem?_eq_getElem hi]
    rfl
  · rw [List.getElem?_eq_none_iff.mpr (by simp; omega), List.getElem?_eq_none_iff.mpr (by omega)]
section
variable {K : PySem.W.Frag} {σ : L2.St} {H : Hp} {ta tb te : TE}
/-- [s[arg] for arg in args] -/
theorem el_getS {i j k : Nat} {row S : List Nat} {xa a : Addr} (hw : ∀ x, wipe ((wipe σ [j]).set j (some x)) [j] = wipe σ [j]) (hi : σ[i]? = some (some (.ref xa))) (hk : ∀ x, ((wipe σ [j]).set j (some x))[k]? = some (some (.ref a))) (hj : ∀ x, ((wipe σ [j]).set j (some x))[j]? = some (some x))
    (hxa : SqT K H xa (row.map vi)) (ha : SqL K H a (S.map vi)) (rl : ∀ x ∈ row, x < S.length) (l : row.length ≤ 1000) : EvL (tLc (iTup K (tVar i)) (gName j) tYes (tOp (rIxL K) (tVar k) (tVar j)) [j]) σ H ((row.map (M20.g S)).map vi) := by
  have zz := el_lcT (K := K) (tl := tVar i) (te := tOp (rIxL K) (tVar k) (tVar j)) (σ := σ) (j := j) (vs := [j]) (ev_var hi) hxa (fun q => vi (M20.g S (row.getD q 0))) (by rw [List.length_map]; omega) hw (fun q y H7 e7 hy => by
    rw [List.getElem?_map] at hy
    cases hq : row[q]? with
    | none => rw [hq] at hy; cases hy
    | some kk =>
      rw [hq] at hy
      cases Option.some.inj hy
      have lk := rl kk (List.mem_iff_getElem?.mpr ⟨q, hq⟩)
      rw [List.getD_eq_getElem?_getD, hq]
      exact ev_op (ev_var (hk _)) (ev_var (hj _)) (rv_ixL (K := K) (ex_l e7 ha) (atI_vi (k := kk) (by rw [List.getElem?_map, M20.g_eq lk]; rfl))))
  have e : (List.range (row.map vi).length).map (fun q => vi (M20.g S (row.getD q 0))) = (row.map (M20.g S)).map vi := by
    conv => rhs; rw [← range_getD 0 row]
    rw [List.length_map, List.map_map, List.map_map]
    rfl
  rw [e] at zz
  exact zz
end
theorem pi_listK {X : Cx} {tg l : Expr} {tl : TE} (K : PySem.W.Frag) (hl : PE X l tl) (h : X.K = K := by rfl) : PI X tg l (iList K tl) := by
  subst h
  exact pi_list hl
theorem rv_ne' {H : Hp} {x y : V} (h : scal x y = true) (e : x = y) : RV rNe x y H (.bl false) := by
  have := rv_ne (H := H) h
  rw [decide_eq_true e] at this
  exact this
section
variable {K : PySem.W.Frag} {σ : L2.St} {H : Hp}
theorem ev_reprW {X : Cx} {te : TE} {d : PyData} {k W : Nat} (hg : X.A.guards = some []) (hK : X.K = K) (h : EvP te σ H fun v H' => Dp K H' v d) (g : Gd k W d) (hk : k ≤ 190) (hW : W ≤ 1000000) : Ev (tCB (rReprW X) (tCons te tNil)) σ H (.str d.shown) := by
  subst hK
  intro H1 e1 Q q
  exact do_cb (do_cons (h H1 e1 _ fun v H2 e2 hv => do_nil ⟨v, d, rfl, hv, hg, g.sho, PyData.hasDict_of_canLay _ g.lay, Nat.le_trans g.dep hk, g.gs.len hW, q H2 e2⟩))
/-- x != y, both the same data -/
theorem ev_neSame {ta tb : TE} {P R : V → Hp → Prop} {d : PyData} {k W : Nat} (ha : EvP ta σ H P) (hb : EvP tb σ H R) (st : ∀ v H1 H2, Ex H1 H2 → P v H1 → P v H2) (dp : ∀ v H1, P v H1 → Dp K H1 v d) (dr : ∀ v H1, R v H1 → Dp K H1 v d) (g : Gd k W d) (hk : k ≤ 60) : Ev (tOp (rNeD K) ta tb) σ H (.bl false) := fun H1 e Q q =>
  ha H1 e _ fun v H2 e2 hv => hb H2 (e.trans e2) _ fun u H3 e3 hu => ⟨d, d, dp _ _ (st _ _ _ e3 hv), dr _ _ hu, g.shaped hk, g.shaped hk, by
    rw [SeqAt.eqv_refl _ g.lay]
    exact q H3 (e2.trans e3)⟩
end
theorem ix_listK {X : Cx} (K : PySem.W.Frag) (h : X.K = K := by rfl) : IxR X (rIxL K) := by
  subst h
  exact ix_list
end Dw
end
section
/-! max(t, default=k); new lists by comprehensions over a range, of two fors -/
namespace Dw
open PySem PySem.Spec PyProof.Rows L2 Evl PySem.W M25
def rMaxD (K : PySem.W.Frag) : List V → List V → Hp → VK → Prop := fun vs zs H Q => ∃ (a : Addr) (ns : List Int) (d : Int), vs = [V.ref a] ∧ zs = [.int d] ∧ SqT K H a (ns.map V.int) ∧ (ns = [] → Q (.int d) H) ∧ ∀ m, m ∈ ns → (∀ y, y ∈ ns → y ≤ m) → Q (.int m) H
theorem cr_maxD {X : Cx} {k : Nat} (hc : X.calm = true) (hr : Room k X.A) : CallRK X (.builtin "max") ["default"] (rMaxD X.K) := by
  intro pins s σ H vs zs us ws Q I r rz h
  obtain ⟨a, ns, d, rfl, rfl, hs, q0, q⟩ := h
  obtain ⟨its, rv, hl, _⟩ := I.tuple hs
  rw [Vals.ref1 r]
  cases rz with
  | cons rd rn =>
    cases rn
    obtain ⟨td, rfl⟩ := rd
    have hi : IntsAre its.toArray.toList ns := by rw [List.toList_toArray]; exact ints_of rv
    have hu := hr.units
    have ho : HoldAll s.heap its.toArray.toList ns := ⟨[], ints_readAll _ hi⟩
    refine max_tuple_datum_default (α := Int) (I.ok.hd hc) hl ho (by show X.A.units + 1 + 0 < _; omega) (fun e h' tk hk => ⟨.int d, H, I.kept hk, ⟨td, rfl⟩, q0 e⟩) fun y ys i v h' tk e hv ho2 hk => ?_
    subst e
    obtain ⟨a2, b2⟩ := maxOf_ge ys y
    obtain ⟨as, rd⟩ := ho2
    have rd' : Reads h' v (.int (maxOf y ys)) as := rd
    cases rd' with
    | int _ t => exact ⟨.int _, H, I.kept hk, ⟨t, rfl⟩, q _ b2 a2⟩
section
variable {K : PySem.W.Frag} {σ : L2.St} {H : Hp} {te tl : TE} {tt : TT} {g : TG} {vs vs1 : List Nat} {Q : VK}
/-- max(t, default=-1), one more: 0 of an empty one -/
theorem ev_maxD {td : TA} {ta : TA} {a : Addr} {row : List Nat} (h : EvA ta σ H [.ref a]) (hd : EvA td σ H [.int (-1)]) (s : SqT K H a (row.map vi)) : Ev (tCKw (rMaxD K) ta td) σ H (.int (((need row : Nat) : Int) - 1)) := fun H1 e Q q =>
  h H1 e _ fun H2 e2 => hd H2 (e.trans e2) _ fun H3 e3 => ⟨a, row.map fun k => ((k : Nat) : Int), -1, rfl, rfl, by rw [List.map_map]; exact ex_t ((e.trans e2).trans e3) s, fun z => by
    have : row = [] := List.map_eq_nil_iff.mp z
    subst this
    exact q H3 (e2.trans e3), fun m hm le => by
    obtain ⟨k, hk, rfl⟩ := List.mem_map.mp hm
    have : need row = k + 1 := need_max hk fun j hj => by
      have := le _ (List.mem_map.mpr ⟨j, hj, rfl⟩)
      omega
    rw [this] at q
    have e1 : (((k + 1 : Nat) : Int) - 1) = (k : Int) := by omega
    rw [e1] at q
    exact q H3 (e2.trans e3)⟩
theorem ev_maxP {row : List Nat} (h : EvP te σ H (fun v H' => Nats K H' v row)) (ne : row ≠ []) : Ev (tCB (rMaxT K) (tCons te tNil)) σ H (vi (need row - 1)) := fun H1 e Q q =>
  h H1 e _ fun v H2 e2 ⟨a, hv, s⟩ => by
    subst hv
    refine ⟨a, row.map fun k => ((k : Nat) : Int), rfl, by rw [List.map_map]; exact s, by rw [List.length_map]; exact List.length_pos_iff.mpr ne, fun m hm le => ?_⟩
    obtain ⟨k, hk, rfl⟩ := List.mem_map.mp hm
    have : need row = k + 1 := need_max hk fun j hj => by
      have := le _ (List.mem_map.mpr ⟨j, hj, rfl⟩)
      omega
    rw [this] at q
    exact q H2 e2
/-- one more list behind them -/
theorem lls_snoc {H0 H : Hp} {a b : Addr} {as : List Addr} {L : List (List Nat)} {ns : List Nat} (h : LLs H0 H a as L) (hb : H b = some (.lst (ns.map vi))) (nb : H0 b = none) (b1 : b ∉ as) (b2 : b ≠ a) : LLs H0 (upd H a (.lst (as.map V.ref ++ [.ref b]))) a (as ++ [b]) (L ++ [ns]) := by
  have h2 : Paired (fun c ns => (upd H a (.lst (as.map V.ref ++ [V.ref b]))) c = some (.lst (ns.map vi)) ∧ H0 c = none) as L := by
    have : ∀ {as' : List Addr} {L : List (List Nat)}, a ∉ as' → Paired (fun b ns => H b = some (.lst (ns.map vi)) ∧ H0 b = none) as' L → Paired (fun c ns => (upd H a (.lst (as.map V.ref ++ [V.ref b]))) c = some (.lst (ns.map vi)) ∧ H0 c = none) as' L := fun {as' L} hn p => by
      induction p with
      | nil => exact .nil
      | cons x r ih =>
        rw [List.mem_cons, not_or] at hn
        exact .cons ⟨by rw [upd_ne (Ne.symm hn.1)]; exact x.1, x.2⟩ (ih hn.2)
    exact this h.ne h.each
  refine ⟨by rw [upd_same, List.map_append]; rfl, h.new, paired_snoc' (R := fun c ns => (upd H a (.lst (as.map V.ref ++ [V.ref b]))) c = some (.lst (ns.map vi)) ∧ H0 c = none) (x := b) (y := ns) ⟨by rw [upd_ne b2]; exact hb, nb⟩ h2, ?_, fun z => ?_⟩
  · rw [List.nodup_append]
    exact ⟨h.nd, List.pairwise_singleton _ _, fun x hx y hy e => b1 (by rw [List.mem_singleton.mp hy] at e; rw [← e]; exact hx)⟩
  · rcases List.mem_append.mp z with z | z
    · exact h.ne z
    · exact b2 (List.mem_singleton.mp z).symm
theorem lls_apart {H0 H : Hp} {a b : Addr} {as : List Addr} {L : List (List Nat)} (h : LLs H0 H a as L) (nb : H b = none) : b ∉ as ∧ b ≠ a := by
  constructor
  · intro z
    obtain ⟨_, _, q, _⟩ := h.some z
    rw [q] at nb
    cases nb
  · intro z
    rw [z, h.at_] at nb
    cases nb
/-- a comprehension over a range whose items are new lists of numbers -/
theorem do_lcNewR {ta : TA} {n : Nat} {u : Nat → List Nat} {j : Nat} (h : EvA ta σ H [vi n]) (hn : n ≤ 40000) (hwp : ∀ x, wipe ((wipe σ vs).set j (some x)) vs = wipe σ vs)
    (hs : ∀ (i : Nat) (H1 : Hp), Ex H H1 → i < n → EvL te ((wipe σ vs).set j (some (vi i))) H1 ((u i).map vi))
    (k : ∀ p as H1, Ex H H1 → LLs H H1 p as ((List.range n).map u) → Q (.ref p) H1) : tLc (iRng1 ta) (gName j) tYes te vs σ H Q := by
  refine w_rng h hn H (Ex.refl _) _ fun H1 e1 Dl nD => ?_
  have nDH : H Dl = none := fresh_back e1 nD
  refine lc_it (walk_range (n := n)) (fun i H' => Ex H H' ∧ ∃ as, LLs H H' Dl as ((List.range i).map u)) ⟨e1.trans (Ex.new nD), [], upd_same, nDH, .nil, .nil, by simp⟩ (fun _ _ _ _ => trivial) (fun i x H2 H3 hi ⟨e2, as, ll⟩ y => ?_) (fun H2 ⟨e2, as, ll⟩ => k Dl as H2 e2 ll)
  obtain ⟨rfl, hxi⟩ := y
  have e0 : x = vi i := hxi.trans (by show V.int _ = V.int _; rw [Int.zero_add])
  subst e0
  refine ⟨hwp _, et_yes H3 (Ex.refl _) _ fun H4 e4 => ifT ?_⟩
  have e04 : Ex H H4 := e2.trans e4
  refine hs i H4 e04 hi H4 (Ex.refl _) _ fun b H5 nb e5 hb => ?_
  have ll5 := ll.ex (e4.trans e5)
  have la := ll.len
  rw [List.length_map, List.length_range] at la
  obtain ⟨b1, b2⟩ := lls_apart (ll.ex e4) nb
  refine ⟨as.map V.ref, ll5.at_, by rw [List.length_map]; exact sz_lt (by omega), (e04.trans e5).mut nDH, as ++ [b], ?_⟩
  rw [List.range_succ, List.map_append]
  exact lls_snoc ll5 hb (fresh_back e04 nb) b1 b2
/-- of two fors: a list, then a range; the items new lists of numbers -/
theorem do_lc2New {a : Addr} {xs : List V} {L : List (List Nat)} {u : List Nat → Nat → List Nat} {ta : TA} {m j j1 : Nat} (h : Ev tl σ H (.ref a)) (hx : SqL K H a xs) (hL : L.length = xs.length) (h1 : ∀ x H1, Ex H H1 → EvA ta ((wipe σ vs).set j (some x)) H1 [vi m]) (hn : xs.length ≤ 10000) (hm : m ≤ 9)
    (hw : ∀ x, wipe ((wipe σ vs).set j (some x)) vs = wipe σ vs) (hw1 : ∀ x y, wipe ((wipe ((wipe σ vs).set j (some x)) vs1).set j1 (some y)) vs1 = wipe ((wipe σ vs).set j (some x)) vs1)
    (he : ∀ (i : Nat) (x : V) (ns : List Nat) (k : Nat) (H1 : Hp), Ex H H1 → xs[i]? = some x → L[i]? = some ns → k < m → EvL te ((wipe ((wipe σ vs).set j (some x)) vs1).set j1 (some (vi k))) H1 ((u ns k).map vi))
    (q : ∀ p as H1, Ex H H1 → LLs H H1 p as (L.flatMap fun ns => (List.range m).map fun k => u ns k) → Q (.ref p) H1) : tLc2 (iList K tl) (gName j) tYes (iRng1 ta) (gName j1) tYes te vs vs1 σ H Q := by
  refine h H (Ex.refl _) _ fun H1 e1 => ⟨a, rfl, ⟨xs, ex_l e1 hx⟩, fun Dl nD => ?_⟩
  have nDH : H Dl = none := fresh_back e1 nD
  let outer : Nat → List (List Nat) := fun i => (L.take i).flatMap fun ns => (List.range m).map fun k => u ns k
  have lenO : ∀ i, (outer i).length ≤ i * m := by
    intro i
    induction i with
    | zero => simp [outer]
    | succ i ih =>
      show ((L.take (i + 1)).flatMap _).length ≤ _
      rw [List.take_add_one, List.flatMap_append, List.length_append, Nat.add_mul, Nat.one_mul]
      have : ((L[i]?.toList).flatMap fun ns => (List.range m).map fun k => u ns k).length ≤ m := by
        cases L[i]? with
        | none => simp
        | some y => simp [Option.toList]
      have e3 : ((L.take i).flatMap fun ns => (List.range m).map fun k => u ns k).length ≤ i * m := ih
      omega
  refine ⟨fun i r H' => r = xs.length - i ∧ i ≤ xs.length ∧ Ex H H' ∧ ∃ as, LLs H H' Dl as (outer i), ⟨_, rfl, Nat.zero_le _, e1.trans (Ex.new nD), [], by simpa [outer] using (⟨upd_same, nDH, .nil, .nil, by simp⟩ : LLs H (upd H1 Dl (.lst [])) Dl [] [])⟩, ?_⟩
  rintro i r H2 ⟨rfl, hi, e2, as, ll⟩
  by_cases hlt : i < xs.length
  · refine .inr ⟨⟨xs, xs[i], ex_l e2 hx, List.getElem?_eq_getElem hlt⟩, fun H' => Ex H H' ∧ ∃ as, LLs H H' Dl as (outer (i + 1)), fun H' ⟨p1, p2⟩ => ⟨_, by omega, rfl, hlt, p1, p2⟩, fun x H3 yl => ?_⟩
    obtain ⟨rfl, hxi⟩ := yl
    have hxi' := hxi xs (ex_l e2 hx)
    have hiL : i < L.length := by omega
    have hnsi := List.getElem?_eq_getElem hiL
    refine ⟨hw x, et_yes H3 (Ex.refl _) _ fun H4 e4 => ifT ?_⟩
    have e14 : Ex H H4 := e2.trans e4
    refine w_rng (h1 x H4 e14) (by omega) H4 (Ex.refl _) _ fun H5 e5 => ?_
    refine ⟨fun k r H' => r = m - k ∧ k ≤ m ∧ Ex H H' ∧ ∃ as, LLs H H' Dl as (outer i ++ (List.range k).map fun k => u L[i] k), ⟨_, rfl, Nat.zero_le _, e14.trans e5, as, by
      have := ll.ex (e4.trans e5)
      simpa using this⟩, ?_⟩
    rintro k r H6 ⟨rfl, hk, e6, as6, ll6⟩
    by_cases klt : k < m
    · refine .inr ⟨(walk_range (n := m)).goes k H6 klt trivial, fun H' => Ex H H' ∧ ∃ as, LLs H H' Dl as (outer i ++ (List.range (k + 1)).map fun k => u L[i] k), fun H' ⟨p1, p2⟩ => ⟨_, by omega, rfl, klt, p1, p2⟩, fun y H7 yl => ?_⟩
      obtain ⟨rfl, hy⟩ := (walk_range (n := m)).yields k H6 y H7 klt trivial yl
      have ey : y = vi k := hy.trans (by show V.int _ = V.int _; rw [Int.zero_add])
      subst ey
      refine ⟨hw1 x _, et_yes H7 (Ex.refl _) _ fun H8 e8 => ifT ?_⟩
      have e18 : Ex H H8 := e6.trans e8
      refine he i x L[i] k H8 e18 hxi' hnsi klt H8 (Ex.refl _) _ fun b H9 nb e9 hb => ?_
      have ll9 := ll6.ex (e8.trans e9)
      obtain ⟨b1, b2⟩ := lls_apart (ll6.ex e8) nb
      have la := ll6.len
      rw [List.length_append, List.length_map, List.length_range] at la
      have lo := lenO i
      have b1' : i * m ≤ 10000 * 9 := Nat.mul_le_mul (by omega) hm
      refine ⟨as6.map V.ref, ll9.at_, by rw [List.length_map]; exact sz_lt (by omega), (e18.trans e9).mut nDH, as6 ++ [b], ?_⟩
      rw [List.range_succ, List.map_append, ← List.append_assoc]
      exact lls_snoc ll9 hb (fresh_back e18 nb) b1 b2
    · have ek : k = m := by omega
      subst ek
      refine .inl ⟨(walk_range (n := k)).stops H6 trivial, e6, as6, ?_⟩
      have : outer (i + 1) = outer i ++ (List.range k).map fun k => u L[i] k := by
        show (L.take (i + 1)).flatMap _ = _
        rw [List.take_add_one, hnsi, List.flatMap_append]
        simp [outer, Option.toList]
      rw [this]
      exact ll6
  · have ei : i = xs.length := by omega
    subst ei
    refine .inl ⟨⟨xs, ex_l e2 hx, Nat.le_refl _⟩, q Dl as H2 e2 ?_⟩
    have : outer xs.length = L.flatMap fun ns => (List.range m).map fun k => u ns k := by
      show (L.take xs.length).flatMap _ = _
      rw [← hL, List.take_length]
    rw [← this]
    exact ll
end
section
variable {σ : L2.St} {H : Hp} {D : Ends} {tu tz : TS} {g : TG}
/-- for .. in range(i, j) -/
theorem q_forR2s {ta : TA} (h : ta σ H fun vs H1 => ∃ i j : Int, vs = [.int i, .int j] ∧ (-(2 ^ 62) ≤ i ∧ i < 2 ^ 62 ∧ -(2 ^ 62) ≤ j ∧ j < 2 ^ 62) ∧ Loops (Itr i (j - i).toNat) g tu { D with nx := tz D } σ H1) : tSeq (tFor (iRng2 ta) g tu) tz D σ H := h
theorem qloops_rng {lo : Int} {n : Nat} (Pv : Nat → L2.St → Hp → Prop) (h0 : Pv 0 σ H)
    (hs : ∀ i σ' H', i < n → Pv i σ' H' → g (.int (lo + (i : Int))) σ' H' fun σ2 H2 => tu { D with nx := Pv (i + 1), ct := Pv (i + 1), bk := tz D } σ2 H2) (hd : ∀ σ' H', Pv n σ' H' → tz D σ' H') : Loops (Itr lo n) g tu { D with nx := tz D } σ H :=
  for_range (D := { D with nx := tz D }) Pv h0 hs hd
end
end Dw
end
section
/-! leads: the mathematics -/
namespace LD
open M20 M25 CL
/-- a cell of the one with the table there: args, worth, table -/
abbrev LC := List Nat × Nat × List Nat
def okC (n2 : Nat) (f : List Nat) (c : LC) : Bool := decide (g f c.2.1 = g c.2.2 (plc n2 (c.1.map (g f))))
def grt (c : LC) : Nat := need (c.1 ++ [c.2.1]) - 1
def allOk (n2 : Nat) (cs : List LC) (f : List Nat) : Bool := cs.all (okC n2 f)
def lvl (n2 : Nat) (cs : List LC) : Nat → List (List Nat)
  | 0 => [[]]
  | k + 1 => ((lvl n2 cs k).flatMap fun f => (List.range n2).map fun x => f ++ [x]).filter (allOk n2 (cs.filter fun c => decide (grt c = k)))
theorem grt_lt {c : LC} {x : Nat} (h : x ∈ c.1 ∨ x = c.2.1) : x ≤ grt c := by
  have : x ∈ c.1 ++ [c.2.1] := List.mem_append.mpr (h.imp id fun z => by rw [z]; exact List.mem_singleton_self _)
  have := need_lt x this
  unfold grt
  omega
theorem grt_low {c : LC} {n : Nat} (h : ∀ x ∈ c.1, x < n) (w : c.2.1 < n) : grt c < n := by
  have : need (c.1 ++ [c.2.1]) ≤ n := need_le fun x hx => by
    rcases List.mem_append.mp hx with z | z
    · exact h x z
    · rw [List.mem_singleton.mp z]; exact w
  unfold grt
  omega
theorem g_app {f : List Nat} {x i : Nat} (h : i < f.length) : g (f ++ [x]) i = g f i := by
  show (f ++ [x]).getD i 0 = f.getD i 0
  rw [List.getD_eq_getElem?_getD, List.getD_eq_getElem?_getD, List.getElem?_append_left h]
theorem okC_app {n2 : Nat} {f : List Nat} {x : Nat} {c : LC} (h : grt c < f.length) : okC n2 (f ++ [x]) c = okC n2 f c := by
  unfold okC
  have a : g (f ++ [x]) c.2.1 = g f c.2.1 := g_app (Nat.lt_of_le_of_lt (grt_lt (.inr rfl)) h)
  have b : c.1.map (g (f ++ [x])) = c.1.map (g f) := List.map_congr_left fun y hy => g_app (Nat.lt_of_le_of_lt (grt_lt (.inl hy)) h)
  rw [a, b]
theorem all_split {α : Type} (p q r : α → Bool) (h : ∀ x, r x = (p x || q x)) (t : α → Bool) : ∀ l : List α, (l.filter r).all t = ((l.filter p).all t && (l.filter q).all t)
  | [] => rfl
  | x :: l => by
    have ih := all_split p q r h t l
    rw [List.filter_cons, List.filter_cons, List.filter_cons, h x]
    cases hp : p x <;> cases hq : q x <;> simp [ih] <;> cases t x <;> simp
theorem flatMap_filter {α β : Type} (p : α → Bool) (f : α → List β) : ∀ l : List α, (l.filter p).flatMap f = l.flatMap fun x => if p x = true then f x else []
  | [] => rfl
  | x :: l => by
    rw [List.filter_cons, List.flatMap_cons]
    cases h : p x
    · rw [if_neg (by decide), if_neg (by decide), List.nil_append]
      exact flatMap_filter p f l
    · rw [if_pos rfl, if_pos rfl, List.flatMap_cons, flatMap_filter p f l]
theorem filter_flatMap {α β : Type} (q : β → Bool) (f : α → List β) : ∀ l : List α, (l.flatMap f).filter q = l.flatMap fun x => (f x).filter q
  | [] => rfl
  | x :: l => by rw [List.flatMap_cons, List.filter_append, List.flatMap_cons, filter_flatMap q f l]
theorem fm_congr {α β : Type} {f g : α → List β} : ∀ {l : List α}, (∀ x ∈ l, f x = g x) → l.flatMap f = l.flatMap g
  | [], _ => rfl
  | x :: l, h => by rw [List.flatMap_cons, List.flatMap_cons, h x (List.mem_cons_self ..), fm_congr fun y hy => h y (List.mem_cons_of_mem _ hy)]
theorem lvl_eq (n2 : Nat) (cs : List LC) : ∀ k, lvl n2 cs k = (rows n2 k).filter (allOk n2 (cs.filter fun c => decide (grt c < k)))
  | 0 => by
    show [[]] = [[]].filter _
    rw [List.filter_cons, if_pos (by
      show (cs.filter fun c => decide (grt c < 0)).all _ = true
      rw [List.filter_eq_nil_iff.mpr (fun c _ => by simp)]
      rfl)]
    rfl
  | k + 1 => by
    show ((lvl n2 cs k).flatMap _).filter _ = ((rows n2 k).flatMap _).filter _
    rw [lvl_eq n2 cs k, flatMap_filter, filter_flatMap, filter_flatMap]
    have e : ∀ f ∈ rows n2 k, ((if allOk n2 (cs.filter fun c => decide (grt c < k)) f = true then (List.range n2).map fun x => f ++ [x] else []).filter (allOk n2 (cs.filter fun c => decide (grt c = k)))) = ((List.range n2).map fun x => f ++ [x]).filter (allOk n2 (cs.filter fun c => decide (grt c < k + 1))) := fun f hf => by
      have lf := (rows_of hf).1
      have key : ∀ x, allOk n2 (cs.filter fun c => decide (grt c < k + 1)) (f ++ [x]) = (allOk n2 (cs.filter fun c => decide (grt c < k)) f && allOk n2 (cs.filter fun c => decide (grt c = k)) (f ++ [x])) := fun x => by
        unfold allOk
        rw [all_split (fun c => decide (grt c < k)) (fun c => decide (grt c = k)) (fun c => decide (grt c < k + 1)) (fun c => by
          rw [Bool.eq_iff_iff]
          simp
          omega)]
        congr 1
        rw [Bool.eq_iff_iff, List.all_eq_true, List.all_eq_true]
        constructor
        · intro h c hc
          rw [← okC_app (x := x) (by rw [lf]; exact of_decide_eq_true (List.mem_filter.mp hc).2)]
          exact h c hc
        · intro h c hc
          rw [okC_app (by rw [lf]; exact of_decide_eq_true (List.mem_filter.mp hc).2)]
          exact h c hc
      cases hA : allOk n2 (cs.filter fun c => decide (grt c < k)) f with
      | true =>
        rw [if_pos rfl]
        refine List.filter_congr fun y hy => ?_
        obtain ⟨x, _, rfl⟩ := List.mem_map.mp hy
        rw [key, hA, Bool.true_and]
      | false =>
        rw [if_neg (by decide), List.filter_nil]
        symm
        rw [List.filter_eq_nil_iff]
        intro y hy
        obtain ⟨x, _, rfl⟩ := List.mem_map.mp hy
        rw [key, hA, Bool.false_and]
        decide
    exact fm_congr e
/-- all leads, in the order of rows -/
theorem leads_eq {n1 n2 : Nat} {cs : List LC} (h : ∀ c ∈ cs, grt c < n1) : lvl n2 cs n1 = (rows n2 n1).filter (allOk n2 cs) := by
  rw [lvl_eq, List.filter_eq_self.mpr fun c hc => decide_eq_true (h c hc)]
/-! ### by levels -/
section
variable {α : Type}
theorem split_perm (f : α → Nat) (t : Nat) : ∀ L : List α, (L.filter (fun x => decide (f x < t)) ++ L.filter (fun x => decide (f x = t))).Perm (L.filter fun x => decide (f x < t + 1))
  | [] => .nil
  | x :: L => by
    have ih := split_perm f t L
    rw [List.filter_cons, List.filter_cons, List.filter_cons]
    by_cases h1 : f x < t
    · rw [if_pos (decide_eq_true h1), if_neg (by simp; omega), if_pos (decide_eq_true (by omega))]
      exact ih.cons x
    · by_cases h2 : f x = t
      · rw [if_neg (by simp; omega), if_pos (decide_eq_true h2), if_pos (decide_eq_true (by omega))]
        exact List.perm_middle.trans (ih.cons x)
      · rw [if_neg (by simp; omega), if_neg (by simp; omega), if_neg (by simp; omega)]
        exact ih
theorem levels_perm (f : α → Nat) (L : List α) : ∀ t, ((List.range t).flatMap fun t => L.filter fun x => decide (f x = t)).Perm (L.filter fun x => decide (f x < t))
  | 0 => by
    rw [List.filter_eq_nil_iff.mpr (fun x _ => by simp)]
    exact .nil
  | t + 1 => by
    rw [List.range_succ, List.flatMap_append, List.flatMap_singleton]
    exact ((levels_perm f L t).append_right _).trans (split_perm f t L)
end
end LD
end
section
/-! rows in their order, and lists sorted in one way only -/
namespace LD
open M20 M25 CL
theorem app_lt : ∀ {a b : List Int} (c d : List Int), a.length = b.length → a < b → a ++ c < b ++ d
  | [], [], _, _, _, h => absurd h (List.lt_irrefl _)
  | [], _ :: _, _, _, l, _ => by cases l
  | _ :: _, [], _, _, l, _ => by cases l
  | x :: a, y :: b, c, d, l, h => by
    rw [List.cons_append, List.cons_append, List.cons_lt_cons_iff]
    rcases List.cons_lt_cons_iff.mp h with h | ⟨e, h⟩
    · exact .inl h
    · exact .inr ⟨e, app_lt c d (Nat.succ.inj l) h⟩
theorem ia_app (a b : List Nat) : ia (a ++ b) = ia a ++ ia b := by unfold ia; rw [List.map_append]
theorem ia_len (a : List Nat) : (ia a).length = a.length := by unfold ia; rw [List.length_map]
theorem rows_lex (n : Nat) : ∀ p, (rows n p).Pairwise fun a b => ia a < ia b
  | 0 => List.pairwise_singleton _ _
  | p + 1 => by
    show ((rows n p).flatMap fun r => (List.range n).map fun x => r ++ [x]).Pairwise _
    rw [List.pairwise_flatMap]
    refine ⟨fun r hr => ?_, ?_⟩
    · rw [List.pairwise_map]
      refine List.Pairwise.imp (fun {x y} h => ?_) (List.pairwise_lt_range (n := n))
      rw [ia_app, ia_app]
      refine List.append_left_lt ?_
      show ((x : Nat) : Int) :: [] < ((y : Nat) : Int) :: []
      rw [List.cons_lt_cons_iff]
      exact .inl (by omega)
    · refine List.Pairwise.imp_of_mem (fun {a b} ha hb h x hx y hy => ?_) (rows_lex n p)
      obtain ⟨i, _, rfl⟩ := List.mem_map.mp hx
      obtain ⟨j, _, rfl⟩ := List.mem_map.mp hy
      rw [ia_app, ia_app]
      exact app_lt _ _ (by rw [ia_len, ia_len, (rows_of ha).1, (rows_of hb).1]) h
theorem sort_uniq {β : Type} {g : β → List Int} : ∀ {O L : List β}, L.Perm O → O.Pairwise (fun a b => g a < g b) → L.Pairwise (fun a b => g a ≤ g b) → L = O
  | [], L, p, _, _ => p.eq_nil
  | o :: O, [], p, _, _ => absurd p.length_eq (by simp)
  | o :: O, l :: L, p, s, t => by
    have e : l = o := by
      have h1 : l ∈ o :: O := p.mem_iff.mp (List.mem_cons_self ..)
      have h2 : o ∈ l :: L := p.mem_iff.mpr (List.mem_cons_self ..)
      rcases List.mem_cons.mp h1 with e | h1
      · exact e
      · rcases List.mem_cons.mp h2 with e | h2
        · exact e.symm
        · have a := (List.pairwise_cons.mp s).1 l h1
          have b := (List.pairwise_cons.mp t).1 o h2
          exact absurd a (List.not_lt.mpr b)
    subst e
    rw [sort_uniq (p.cons_inv) (List.pairwise_cons.mp s).2 (List.pairwise_cons.mp t).2]
end LD
end
section
/-! sorted(..) told exactly; max((-1,) + row) -/
namespace Dw
open PySem PySem.Spec PyProof.Rows L2 Evl RZ M20 M25 CL PySem.W LD
section
variable {K : PySem.W.Frag} {σ : L2.St} {H : Hp} {te tl : TE} {tt : TT} {g : TG} {vs vs1 : List Nat} {Q : VK}
theorem le_int (a b : List Int) : (!decide (b < a)) = decide (a ≤ b) := by
  by_cases h : b < a
  · have h' : ¬ a ≤ b := fun z => List.not_lt.mpr z h
    simp [h, h']
  · have h' : a ≤ b := List.not_lt.mp h
    simp [h, h']
theorem do_sortE {β : Type} {R : V → β → Hp → Prop} {f : β → PyData} {g : β → List Int} {a : Addr} {vs : List V} {L O : List β} (hl : H a = some (.lst vs)) (pv : Paired (fun v b => R v b H) vs L) (dp : ∀ v b, R v b H → Dp K H v (f b)) (al : AllAlike (L.map f)) (so : Sortable (L.map f)) (dep : ∀ b ∈ L, (f b).depth ≤ 40) (st : ∀ v b H1, Ex H H1 → R v b H → R v b H1)
    (lt : ∀ x ∈ L, ∀ y ∈ L, dataLt (f x) (f y) = decide (g x < g y)) (pm : L.Perm O) (up : O.Pairwise fun x y => g x < g y)
    (k : ∀ p vs' H1, H p = none → Ex H H1 → H1 p = some (.lst vs') → Paired (fun v b => R v b H1) vs' O → Q (.ref p) H1) : rSortD K [.ref a] H Q := by
  obtain ⟨e1, e2, hq⟩ := paired_zip pv
  let qs : List (V × β) := vs.zip L
  let ps : List (V × PyData) := qs.map fun q => (q.1, f q.2)
  have e3 : ps.map (·.1) = vs := by
    rw [← e1]
    simp only [ps, qs, List.map_map]
    rfl
  have e4 : ps.map (·.2) = L.map f := by
    conv => rhs; rw [← e2]
    simp only [ps, qs, List.map_map]
    rfl
  refine ⟨a, ps, rfl, by rw [e3]; exact sq_of hl, fun p hp => ?_, by rw [e4]; exact al, by rw [e4]; exact so, fun p hp => ?_, fun l nl => ?_⟩
  · obtain ⟨q, hqq, rfl⟩ := List.mem_map.mp hp
    exact dp _ _ (hq q hqq)
  · obtain ⟨q, hqq, rfl⟩ := List.mem_map.mp hp
    exact dep q.2 (by rw [← e2]; exact List.mem_map.mpr ⟨q, hqq, rfl⟩)
  · have e5 : ps.mergeSort leD = (qs.mergeSort fun x y => leD (x.1, f x.2) (y.1, f y.2)).map fun q => (q.1, f q.2) := (List.map_mergeSort (r := fun x y : V × β => leD (x.1, f x.2) (y.1, f y.2)) (s := leD) (f := fun q : V × β => (q.1, f q.2)) fun a _ b _ => rfl).symm
    have pm2 : (qs.mergeSort fun x y => leD (x.1, f x.2) (y.1, f y.2)).Perm qs := List.mergeSort_perm _ _
    have e6 : (qs.mergeSort fun x y => leD (x.1, f x.2) (y.1, f y.2)).map (·.2) = L.mergeSort fun x y => decide (g x ≤ g y) := by
      rw [List.map_mergeSort (r := fun x y : V × β => leD (x.1, f x.2) (y.1, f y.2)) (s := fun x y => decide (g x ≤ g y)) (f := fun q : V × β => q.2) fun x hx y hy => ?_]
      · rw [e2]
      · have mx : x.2 ∈ L := by rw [← e2]; exact List.mem_map.mpr ⟨x, hx, rfl⟩
        have my : y.2 ∈ L := by rw [← e2]; exact List.mem_map.mpr ⟨y, hy, rfl⟩
        show (!dataLt (f y.2) (f x.2)) = _
        rw [lt _ my _ mx]
        exact le_int _ _
    have up2 : (L.mergeSort fun x y => decide (g x ≤ g y)).Pairwise fun x y => g x ≤ g y := by
      have := List.pairwise_mergeSort (le := fun x y => decide (g x ≤ g y)) (fun a b c h1 h2 => decide_eq_true (List.le_trans (of_decide_eq_true h1) (of_decide_eq_true h2))) (fun a b => by
        rcases List.le_total (g a) (g b) with h | h
        · simp [h]
        · simp [h]) L
      exact this.imp fun h => of_decide_eq_true h
    have e7 : (L.mergeSort fun x y => decide (g x ≤ g y)) = O := sort_uniq ((List.mergeSort_perm L _).trans pm) up up2
    rw [e7] at e6
    generalize (qs.mergeSort fun x y => leD (x.1, f x.2) (y.1, f y.2)) = rs at e5 e6 pm2
    rw [e5]
    refine k l (rs.map (·.1)) _ nl (Ex.new nl) ?_ ?_
    · rw [upd_same, List.map_map]
      rfl
    · have z := zip_paired (qs := rs) (R := fun (v : V) (b : β) => R v b (upd H l (.lst ((rs.map fun q => (q.1, f q.2)).map (·.1))))) fun q hqq => st _ _ _ (Ex.new nl) (hq q (pm2.mem_iff.mp hqq))
      rw [e6] at z
      exact z
end
end Dw
end
section
/-! range(n) as a thing; not in range(n) -/
namespace Dw
open PySem PySem.Spec PyProof.Rows L2 Evl RZ M20 M25 CL PySem.W LD
section
variable {K : PySem.W.Frag} {σ : L2.St} {H : Hp} {ta tb : TE}
end
end Dw
end
section
/-! copies: data whose lists are new, told whatever becomes of the lists that stood -/
namespace Dw
open PySem PySem.Spec PyProof.Rows L2 Evl RZ M20 M25 CL PySem.W LD
def Keep (H0 H H' : Hp) : Prop := ∀ b o, (H0 b = none ∨ ∀ ys, o ≠ .lst ys) → H b = some o → H' b = some o
def Cz (K : PySem.W.Frag) (H H' : Hp) (v : V) (d : PyData) : Prop := ∀ H'', Keep H H' H'' → Dp K H'' v d
def CzA (K : PySem.W.Frag) (H H' : Hp) (vs : List V) (ds : List PyData) : Prop := ∀ H'', Keep H H' H'' → DpAll K H'' vs ds
theorem dps_snoc {K : PySem.W.Frag} {H : Hp} {v : V} {d : PyData} : ∀ {vs : List V} {ds : List PyData}, DpAll K H vs ds → Dp K H v d → DpAll K H (vs ++ [v]) (ds ++ [d])
  | _, _, .nil, h => .cons h .nil
  | _, _, .cons a b, h => .cons a (dps_snoc b h)
theorem Cz.here {K : PySem.W.Frag} {H H' : Hp} {v : V} {d : PyData} (h : Cz K H H' v d) : Dp K H' v d := h H' fun _ _ _ z => z
theorem Cz.ex {K : PySem.W.Frag} {H H1 H' : Hp} {v : V} {d : PyData} (e : Ex H1 H') (h : Cz K H H1 v d) : Cz K H H' v d := fun H'' kp => h H'' fun b o c hb => kp b o c (e _ _ hb)
theorem Cz.low {K : PySem.W.Frag} {H H1 H' : Hp} {v : V} {d : PyData} (e : Ex H H1) (h : Cz K H1 H' v d) : Cz K H H' v d := fun H'' kp => h H'' fun b o c hb => kp b o (c.imp (fun z => fresh_back e z) id) hb
theorem Cz.lst {K : PySem.W.Frag} {H H' : Hp} {a : Addr} {vs : List V} {ds : List PyData} (na : H a = none) (ha : H' a = some (.lst vs)) (h : CzA K H H' vs ds) : Cz K H H' (.ref a) (.list ds) := fun H'' kp => .lst (sq_of (kp _ _ (.inl na) ha)) (h H'' kp)
section
variable {K : PySem.W.Frag} {σ : L2.St} {H : Hp} {te tl : TE} {tt : TT} {g : TG} {vs : List Nat} {Q : VK}
theorem do_lcCzL {a : Addr} {xs : List V} {ds : List PyData} {j : Nat} (h : Ev tl σ H (.ref a)) (hx : SqL K H a xs) (hl : ds.length = xs.length) (hn : xs.length ≤ 40000) (hwp : ∀ x, wipe ((wipe σ vs).set j (some x)) vs = wipe σ vs)
    (hs : ∀ (i : Nat) (x : V) (d : PyData) (H1 : Hp), Ex H H1 → xs[i]? = some x → ds[i]? = some d → ∀ Q : VK, (∀ v H2, Ex H1 H2 → Cz K H1 H2 v d → Q v H2) → te ((wipe σ vs).set j (some x)) H1 Q)
    (k : ∀ p ws H1, H p = none → Ex H H1 → H1 p = some (.lst ws) → CzA K H H1 ws ds → Q (.ref p) H1) : tLc (iList K tl) (gName j) tYes te vs σ H Q := by
  refine h H (Ex.refl _) _ fun H1 e1 => ⟨a, rfl, ⟨xs, ex_l e1 hx⟩, fun Dl nD => ?_⟩
  have nDH : H Dl = none := fresh_back e1 nD
  have e01 : Ex H (upd H1 Dl (.lst [])) := e1.trans (Ex.new nD)
  refine lc_it (walk_list (K := K) (a := a) (xs := xs)) (fun i H' => Ex H H' ∧ (∀ b, upd H1 Dl (.lst []) b ≠ none → H' b ≠ none) ∧ ∃ ws, H' Dl = some (.lst ws) ∧ CzA K (upd H1 Dl (.lst [])) H' ws (ds.take i)) ⟨e01, fun _ z => z, [], upd_same, fun _ _ => .nil⟩ (fun i H' _ ⟨e, _⟩ => ex_l e hx) (fun i x H2 H3 hi ⟨e2, dom, ws, hD, hw⟩ y => ?_) (fun H2 ⟨e2, dom, ws, hD, hw⟩ => ?_)
  · obtain ⟨rfl, hxi⟩ := y
    have hi2 : i < ds.length := by omega
    refine ⟨hwp x, et_yes H3 (Ex.refl _) _ fun H4 e4 => ifT ?_⟩
    refine hs i x ds[i] H4 (e2.trans e4) hxi (List.getElem?_eq_getElem hi2) _ fun v H5 e5 hv => ?_
    have hD4 := e4 _ _ hD
    have hD5 := e5 _ _ hD4
    have e35 := e4.trans e5
    have la : ws.length = i := by
      have := dps_len (hw H3 (fun b o _ z => z))
      rw [List.length_take, Nat.min_eq_left (Nat.le_of_lt hi2)] at this
      exact this
    refine ⟨ws, hD5, sz_lt (by omega), (e2.trans e35).mut nDH, fun b hb => ?_, ws ++ [v], upd_same, fun H'' kp => ?_⟩
    · by_cases z : b = Dl
      · rw [z, upd_same]; exact fun z => by cases z
      · rw [upd_ne z]
        obtain ⟨o, ho⟩ := Option.ne_none_iff_exists'.mp (dom b hb)
        rw [e35 _ _ ho]
        exact fun z => by cases z
    · rw [List.take_add_one, List.getElem?_eq_getElem hi2]
      refine dps_snoc (hw H'' fun b o cond hb => ?_) (hv H'' fun b o cond hb => ?_)
      · have ne : b ≠ Dl := fun z => by
          subst z
          rcases cond with c | c
          · rw [upd_same] at c; cases c
          · rw [hD] at hb
            exact c _ (Option.some.inj hb).symm
        exact kp b o cond (by rw [upd_ne ne]; exact e35 _ _ hb)
      · have ne : b ≠ Dl := fun z => by
          subst z
          rcases cond with c | c
          · rw [hD4] at c; cases c
          · rw [hD5] at hb
            exact c _ (Option.some.inj hb).symm
        refine kp b o (cond.imp (fun c => ?_) id) (by rw [upd_ne ne]; exact hb)
        have c3 : H3 b = none := fresh_back e4 c
        cases hh : upd H1 Dl (.lst []) b with
        | none => rfl
        | some o => exact absurd c3 (dom b (by rw [hh]; exact fun z => by cases z))
  · rw [← hl, List.take_length] at hw
    exact k Dl ws H2 nDH e2 hD fun H'' kp => hw H'' fun b o cond hb => kp b o (cond.imp (fun c => fresh_back e01 c) id) hb
end
end Dw
end
section
/-! a text of one sign, so many times -/
namespace Dw
open PySem PySem.Spec PyProof.Rows L2 Evl RZ M20 M25 CL PySem.W LD
section
variable {σ : L2.St} {H : Hp} {ta tb : TE}
end
end Dw
end
section
/-! x or y of things; the last of a list; lists turned about; comprehensions over range(i, j) -/
namespace Dw
open PySem PySem.Spec PyProof.Rows L2 Evl RZ M20 M25 CL PySem.W LD
mutual
theorem dpEx {K : PySem.W.Frag} {H H' : Hp} (e : Ex H H') : ∀ {v : V} {d : PyData}, Dp K H v d → Dp K H' v d
  | _, _, .non => .non
  | _, _, .bl b => .bl b
  | _, _, .int i => .int i
  | _, _, .str x => .str x
  | _, _, .lst h r => .lst (ex_l e h) (dpsEx e r)
  | _, _, .tup h r => .tup (ex_t e h) (dpsEx e r)
theorem dpsEx {K : PySem.W.Frag} {H H' : Hp} (e : Ex H H') : ∀ {vs : List V} {ds : List PyData}, DpAll K H vs ds → DpAll K H' vs ds
  | _, _, .nil => .nil
  | _, _, .cons a b => .cons (dpEx e a) (dpsEx e b)
end
theorem atI_last {xs : List V} {v : V} : atI (xs ++ [v]) (-1) = some v := by
  show (ixN (xs ++ [v]).length (-1)).bind _ = _
  have : ixN (xs ++ [v]).length (-1) = some xs.length := by
    rw [List.length_append]
    show ixN (xs.length + 1) (-1) = _
    unfold ixN
    simp
    omega
  rw [this]
  show (xs ++ [v])[xs.length]? = some v
  rw [List.getElem?_append_right (Nat.le_refl _), Nat.sub_self]
  rfl
section
variable {K : PySem.W.Frag} {σ : L2.St} {H : Hp} {te tl ta tb : TE} {tt : TT} {g : TG} {vs vs1 : List Nat} {Q : VK}
end
end Dw
end
section
/-! zip of three tuples -/
namespace Dw
open PySem PySem.Spec PyProof.Rows L2 Evl RZ
/-- the tuples at a, b, c: their items in new triples -/
def Itz3 (K : PySem.W.Frag) (a b c : Addr) : It :=
  ⟨fun i H => ∃ (xs ys zs : List V) (x y z : V), SqT K H a xs ∧ SqT K H b ys ∧ SqT K H c zs ∧ xs[i]? = some x ∧ ys[i]? = some y ∧ zs[i]? = some z,
   fun i H v H' => ∃ T x y z, v = .ref T ∧ H T = none ∧ H' = upd H T (.tup [x, y, z]) ∧ (∀ xs, SqT K H a xs → xs[i]? = some x) ∧ (∀ ys, SqT K H b ys → ys[i]? = some y) ∧ (∀ zs, SqT K H c zs → zs[i]? = some z),
   fun i H => ∃ xs ys zs : List V, SqT K H a xs ∧ SqT K H b ys ∧ SqT K H c zs ∧ i ≤ xs.length ∧ i ≤ ys.length ∧ i ≤ zs.length ∧ (i = xs.length ∨ i = ys.length ∨ i = zs.length)⟩
def Stands3 (z TI TO i1 i2 i3 a b c : Addr) (i : Nat) (hp : Heap) : Prop := IsZip hp z TI TO .none ∧ IsTupOf3 hp TI (.ref i1) (.ref i2) (.ref i3) ∧ (∃ x y u, IsTupOf3 hp TO x y u) ∧ hp.IsTupleIter i1 a i ∧ hp.IsTupleIter i2 b i ∧ hp.IsTupleIter i3 c i
theorem six {c z TI TO i1 i2 i3 : Addr} {P : Addr → Prop} (h : c ∈ [z, TI, TO, i1, i2, i3]) (p1 : P z) (p2 : P TI) (p3 : P TO) (p4 : P i1) (p5 : P i2) (p6 : P i3) : P c := by
  simp only [List.mem_cons, List.not_mem_nil, or_false] at h
  rcases h with e | e | e | e | e | e <;> (rw [e]; assumption)
theorem Stands3.low {z TI TO i1 i2 i3 a b c : Addr} {i : Nat} {hp : Heap} (st : Stands3 z TI TO i1 i2 i3 a b c i hp) {d : Addr} (h : d ∈ [z, TI, TO, i1, i2, i3]) : d < hp.objs.size := by
  obtain ⟨hz, hI, ⟨x, y, u, hO⟩, ⟨o1, e1, _⟩, ⟨o2, e2, _⟩, ⟨o3, e3, _⟩⟩ := st
  exact six (P := fun c => c < hp.objs.size) h (Heap.lt_size hz) (Heap.lt_size hI) (Heap.lt_size hO) (Heap.lt_size e1) (Heap.lt_size e2) (Heap.lt_size e3)
theorem notIter {h : Heap} {b i k : Addr} {n : Nat} {ds : Array Value} (h2 : h.IsTupleIter i k n) (pt : h.IsTuple b ds) : b ≠ i := fun e => by
  obtain ⟨o1, g1, c1, _⟩ := h2
  obtain ⟨o2, g2, c2, _⟩ := pt
  rw [e, g1] at g2
  cases g2
  rw [c1] at c2
  injection c2 with z
  exact absurd z (by decide)
theorem turn_zip3 {P : Program} {w : World} {K : PySem.W.Frag} {elts : List Expr} {kk : Nat} {tpos : Pos} {a b c z TI TO i1 i2 i3 : Addr} (S : ZipSep3 z TI TO i1 i2 i3 [i1, a] [i2, b] [i3, c]) : Turn P w K (.Tuple elts kk tpos) (Itz3 K a b c) [z, TI, TO, i1, i2, i3] z (Stands3 z TI TO i1 i2 i3 a b c) where
  mem := List.mem_cons_self ..
  obj := by
    intro i hp st d hc
    obtain ⟨hz, hI, ⟨x, y, u, hO⟩, ⟨o1, e1, _, d1⟩, ⟨o2, e2, _, d2⟩, ⟨o3, e3, _, d3⟩⟩ := st
    exact six (P := fun c => ∃ o, hp.get? c = some o ∧ ∀ v, o.data ≠ .cell v) hc ⟨_, hz, fun _ q => nomatch q⟩ ⟨_, hI, fun _ q => nomatch q⟩ ⟨_, hO, fun _ q => nomatch q⟩ ⟨o1, e1, fun v q => by rw [d1] at q; cases q⟩ ⟨o2, e2, fun v q => by rw [d2] at q; cases q⟩ ⟨o3, e3, fun v q => by rw [d3] at q; cases q⟩
  keep := by
    intro i hp hp' st same
    obtain ⟨hz, hI, ⟨x, y, u, hO⟩, h1, h2, h3⟩ := st
    have at_ : ∀ c, c ∈ [z, TI, TO, i1, i2, i3] → ∀ o, hp.get? c = some o → hp'.get? c = some o := same
    exact ⟨at_ z (by simp) _ hz, at_ TI (by simp) _ hI, ⟨x, y, u, at_ TO (by simp) _ hO⟩, h1.at (at_ i1 (by simp)), h2.at (at_ i2 (by simp)), h3.at (at_ i3 (by simp))⟩
  item := by
    intro X eP ew eK calm i pins s σ H E I free st here
    subst eP ew eK
    have low := fun {c : Addr} => st.low (d := c)
    obtain ⟨hz, hI, ⟨x0, y0, u0, hO⟩, h1, h2, h3⟩ := st
    obtain ⟨xs, ys, zs, x, y, zz, hx, hy, hzz, atx, aty, atz⟩ := here
    obtain ⟨cs, rel, pl, _⟩ := I.tuple hx
    obtain ⟨ds, rel2, pt, _⟩ := I.tuple hy
    obtain ⟨es, rel3, pu, _⟩ := I.tuple hzz
    obtain ⟨u, hu, ru⟩ := rel.get atx
    obtain ⟨u2, hu2, ru2⟩ := rel2.get aty
    obtain ⟨u3, hu3, ru3⟩ := rel3.get atz
    have quiet : X.A.in1.handled = none := I.ok.hd calm
    have ne1 : a ≠ i1 := notIter h1 pl
    have ne2 : b ≠ i2 := notIter h2 pt
    have ne3 : c ≠ i3 := notIter h3 pu
    have zl := low (c := z) (by simp)
    refine wpAny_pyNext_zipD3_item S (Draws.tuple (prog := X.prog) (w := X.w) quiet i1 a ne1 cs.toArray) (Draws.tuple (prog := X.prog) (w := X.w) quiet i2 b ne2 ds.toArray) (Draws.tuple (prog := X.prog) (w := X.w) quiet i3 c ne3 es.toArray) hz hI hO ⟨h1, pl⟩ ⟨h2, pt⟩ ⟨h3, pu⟩ (by rw [List.size_toArray]; exact (List.getElem?_eq_some_iff.mp hu).1) (by rw [List.size_toArray]; exact (List.getElem?_eq_some_iff.mp hu2).1) (by rw [List.size_toArray]; exact (List.getElem?_eq_some_iff.mp hu3).1) fun v v2 v3 hp1 tk p1 p2 p3 z' O' s1 s2 s3 pair _ same => ?_
    have ev : v = u := by
      have q : cs.toArray[i]? = some v := p1
      rw [List.getElem?_toArray, hu] at q
      exact (Option.some.inj q).symm
    have ev2 : v2 = u2 := by
      have q : ds.toArray[i]? = some v2 := p2
      rw [List.getElem?_toArray, hu2] at q
      exact (Option.some.inj q).symm
    have ev3 : v3 = u3 := by
      have q : es.toArray[i]? = some v3 := p3
      rw [List.getElem?_toArray, hu3] at q
      exact (Option.some.inj q).symm
    subst ev ev2 ev3
    refine ⟨_, rfl, wpAny_letOwnedTupleGo_zip (s := { s with heap := hp1, toks := tk }) z' fun hp2 z'' but => ?_⟩
    have pair2 : hp2.get? s.heap.objs.size = some { cls := .type "tuple", data := .seq #[v, v2, v3] } := (but.2 _ (Nat.ne_of_gt zl)).trans pair
    have fine : ObjOk X.prog X.w (upd H s.heap.objs.size (.tup [x, y, zz])) hp2 s.heap.objs.size (.tup [x, y, zz]) := And.intro (show 3 ≤ sizeLine by decide) ⟨[v, v2, v3], .cons ru (.cons ru2 (.cons ru3 .nil)), _, pair2, rfl, _, rfl⟩
    have still : ∀ c o, c ∉ [z, TI, TO, i1, i2, i3] → s.heap.get? c = some o → hp2.get? c = some o := fun c o nc q => by
      simp only [List.mem_cons, List.not_mem_nil, or_false, not_or] at nc
      rw [but.2 c nc.1]
      exact same c o nc.1 nc.2.2.1 nc.2.2.2.1 nc.2.2.2.2.1 nc.2.2.2.2.2 q
    have J := I.turnedNew (ch := [z, TI, TO, i1, i2, i3]) (t' := tk) still free (Nat.le_refl s.heap.objs.size) fine
    refine ⟨.ref s.heap.objs.size, _, J, rfl, ⟨_, x, y, zz, rfl, I.hok.fresh (Nat.le_refl _), rfl, fun l hl => by rw [I.tuple_inj hl hx]; exact atx, fun l hl => by rw [I.tuple_inj hl hy]; exact aty, fun l hl => by rw [I.tuple_inj hl hzz]; exact atz⟩, ⟨z'', ?_, ⟨v, v2, v3, ?_⟩, ?_, ?_, ?_⟩, fun c hc => ?_⟩
    · refine (but.2 _ ?_).trans (same _ _ ?_ ?_ ?_ ?_ ?_ hI)
      · exact S.TIz
      · exact S.TIz
      · exact S.TITO
      · exact S.TIi1
      · exact S.TIi2
      · exact S.TIi3
    · exact (but.2 _ S.TOz).trans O'
    · exact s1.1.at fun o q => (but.2 _ (Ne.symm S.zi1)).trans q
    · exact s2.1.at fun o q => (but.2 _ (Ne.symm S.zi2)).trans q
    · exact s3.1.at fun o q => (but.2 _ (Ne.symm S.zi3)).trans q
    · rw [upd_ne (Nat.ne_of_lt (low hc))]
      exact (free c hc).1
  done := by
    intro X eP ew eK calm i pins s σ H E I free st over
    subst eP ew eK
    obtain ⟨hz, hI, ⟨x0, y0, u0, hO⟩, h1, h2, h3⟩ := st
    obtain ⟨xs, ys, zs, hx, hy, hzz, l1, l2, l3, ends⟩ := over
    obtain ⟨cs, rel, pl, _⟩ := I.tuple hx
    obtain ⟨ds, rel2, pt, _⟩ := I.tuple hy
    obtain ⟨es, rel3, pu, _⟩ := I.tuple hzz
    have quiet : X.A.in1.handled = none := I.ok.hd calm
    have n1 := rel.length
    have n2 := rel2.length
    have n3 := rel3.length
    have ne1 : a ≠ i1 := notIter h1 pl
    have ne2 : b ≠ i2 := notIter h2 pt
    have ne3 : c ≠ i3 := notIter h3 pu
    exact wpAny_pyNext_zipD3_end S (Draws.tuple (prog := X.prog) (w := X.w) quiet i1 a ne1 cs.toArray) (Draws.tuple (prog := X.prog) (w := X.w) quiet i2 b ne2 ds.toArray) (Draws.tuple (prog := X.prog) (w := X.w) quiet i3 c ne3 es.toArray) hz hI hO ⟨h1, pl⟩ ⟨h2, pt⟩ ⟨h3, pu⟩ (by rw [List.size_toArray]; omega) (by rw [List.size_toArray]; omega) (by rw [List.size_toArray]; omega) (by rw [List.size_toArray, List.size_toArray, List.size_toArray]; omega) fun hp1 tk same =>
      ⟨rfl, I.turnedL (t' := tk) (ch := [z, TI, TO, i1, i2, i3]) (fun c o nc q => by
        simp only [List.mem_cons, List.not_mem_nil, or_false, not_or] at nc
        exact same c o nc.1 nc.2.2.1 nc.2.2.2.1 nc.2.2.2.2.1 nc.2.2.2.2.2 q) free⟩
  self := fun A i s Q E st h => wpAny_pyIter_zip st.1 h
theorem sep3 (I l1 l2 l3 : Nat) (h1 : l1 < I) (h2 : l2 < I) (h3 : l3 < I) : ZipSep3 (I + 5) (I + 3) (I + 4) I (I + 1) (I + 2) [I, l1] [I + 1, l2] [I + 2, l3] := by
  constructor <;> (simp only [List.mem_cons, List.not_mem_nil, or_false, not_or, ne_eq, true_or]; try first | exact nq (by omega) | exact ⟨nq (by omega), nq (by omega)⟩)
def iZip3 (K : PySem.W.Frag) (ta : TA) : TI := fun σ H R => ta σ H fun vs H1 => ∃ a b c xs ys zs, vs = [.ref a, .ref b, .ref c] ∧ SqT K H1 a xs ∧ SqT K H1 b ys ∧ SqT K H1 c zs ∧ R (Itz3 K a b c) H1
theorem pi_zip3 {X : Cx} {e e2 e3 : Expr} {ta : TA} {p pos tpos : Pos} {elts : List Expr} {kk : Nat} (glob : Gl X "zip") (none_ : X.mg "zip" = none) (args : PA X [e, e2, e3] ta)
    (star : starEach [e, e2, e3] X.env = (false, eval e X.env) :: starEach [e2, e3] X.env := by rfl) (plain : (backTo pos (starEach [e2, e3] X.env)).any (·.1) = false := by rfl) : PI X (.Tuple elts kk tpos) (.Call (.Name "zip" p) [e, e2, e3] [] pos) (iZip3 X.K ta) := by
  constructor
  intro pins s σ H R I q0
  refine Call_ (ld_blt I glob none_ PyProof.Rows.boot_zip (PyProof.Rows.callWith_type1 (thn (args.run pos pins s σ H _ I q0) fun us s1 got => ?_) star plain))
  obtain ⟨vs, H1, J, rel, a, b, c, xs, ys, zs, ev, hx, hy, hzz, q1⟩ := got
  subst ev
  cases rel with
  | cons r1 rel =>
    cases rel with
    | cons r2 rel =>
      cases rel with
      | cons r3 rel =>
        cases rel
        cases r1
        cases r2
        cases r3
        obtain ⟨cs, _, pl, _⟩ := J.tuple hx
        obtain ⟨ds, _, pt, _⟩ := J.tuple hy
        obtain ⟨es, _, pu, _⟩ := J.tuple hzz
        have lt : ∀ {b : Addr} {ds : List Value}, s1.heap.IsTuple b ds.toArray → b < s1.heap.objs.size := fun {b ds} pt => by
          obtain ⟨o, ho, _⟩ := pt
          exact Heap.lt_size ho
        have la : a < s1.heap.objs.size := lt pl
        have lb : b < s1.heap.objs.size := lt pt
        have lc : c < s1.heap.objs.size := lt pu
        refine zip_begins3 (begins_tuple a cs.toArray) (begins_tuple b ds.toArray) (begins_tuple c es.toArray) pl pt pu fun hp hz hI hO g1 g2 g3 _ kept => wpAny_pyIter_zip hz ?_
        have J2 : Inv X pins σ H1 { s1 with heap := hp } := J.kept (t' := s1.toks) kept
        have sep := sep3 s1.heap.objs.size a b c la lb lc
        refine ⟨s1.heap.objs.size + 5, [s1.heap.objs.size + 5, s1.heap.objs.size + 3, s1.heap.objs.size + 4, s1.heap.objs.size, s1.heap.objs.size + 1, s1.heap.objs.size + 2], _, _, H1, rfl, J2, turn_zip3 sep, ⟨hz, hI, ⟨_, _, _, hO⟩, ⟨_, g1, rfl, rfl⟩, ⟨_, g2, rfl, rfl⟩, ⟨_, g3, rfl, rfl⟩⟩, fun c hc => ?_, q1⟩
        have late : s1.heap.objs.size ≤ c := six (P := fun c => s1.heap.objs.size ≤ c) hc (Nat.le_add_right _ _) (Nat.le_add_right _ _) (Nat.le_add_right _ _) (Nat.le_refl _) (Nat.le_add_right _ _) (Nat.le_add_right _ _)
        exact J.fpOk late (J.hok.fresh late)
end Dw
namespace Dw
open PySem PySem.Spec PyProof.Rows L2 Evl RZ
theorem walk_zip3 {K : PySem.W.Frag} {a b c : Addr} {xs ys zs : List V} {n : Nat} (h1 : n = xs.length) (h2 : n = ys.length) (h3 : n = zs.length) : Walk (Itz3 K a b c) n (fun H => SqT K H a xs ∧ SqT K H b ys ∧ SqT K H c zs) (fun i H v H' => ∃ T x y z, v = .ref T ∧ H T = none ∧ H' = upd H T (.tup [x, y, z]) ∧ xs[i]? = some x ∧ ys[i]? = some y ∧ zs[i]? = some z) := by
  refine ⟨fun i H hi q => ⟨xs, ys, zs, xs[i]'(by omega), ys[i]'(by omega), zs[i]'(by omega), q.1, q.2.1, q.2.2, List.getElem?_eq_getElem (by omega), List.getElem?_eq_getElem (by omega), List.getElem?_eq_getElem (by omega)⟩, fun H q => ⟨xs, ys, zs, q.1, q.2.1, q.2.2, by omega, by omega, by omega, by omega⟩, fun i H v H' _ q y => ?_⟩
  obtain ⟨T, x1, x2, x3, e1, e2, e3, e4, e5, e6⟩ := y
  exact ⟨T, x1, x2, x3, e1, e2, e3, e4 xs q.1, e5 ys q.2.1, e6 zs q.2.2⟩
section
variable {K : PySem.W.Frag} {σ : L2.St} {H : Hp} {D : Ends} {tu tz : TS} {g : TG}
theorem q_zip3s {ta : TA} (h : ta σ H fun vs H1 => ∃ a b c xs ys zs, vs = [.ref a, .ref b, .ref c] ∧ SqT K H1 a xs ∧ SqT K H1 b ys ∧ SqT K H1 c zs ∧ Loops (Itz3 K a b c) g tu { D with nx := tz D } σ H1) : tSeq (tFor (iZip3 K ta) g tu) tz D σ H := h
theorem qloops_zip3 {a b c : Addr} {xs ys zs : List V} (l1 : xs.length = ys.length) (l2 : xs.length = zs.length) (Pv : Nat → L2.St → Hp → Prop) (h0 : Pv 0 σ H) (hk : ∀ i σ' H', i ≤ xs.length → Pv i σ' H' → SqT K H' a xs ∧ SqT K H' b ys ∧ SqT K H' c zs)
    (hs : ∀ i x y z T σ' H', xs[i]? = some x → ys[i]? = some y → zs[i]? = some z → Pv i σ' H' → H' T = none → g (.ref T) σ' (upd H' T (.tup [x, y, z])) fun σ2 H2 => tu { D with nx := Pv (i + 1), ct := Pv (i + 1), bk := tz D } σ2 H2) (hd : ∀ σ' H', Pv xs.length σ' H' → tz D σ' H') : Loops (Itz3 K a b c) g tu { D with nx := tz D } σ H :=
  for_it (D := { D with nx := tz D }) (walk_zip3 (n := xs.length) rfl l1 l2) Pv h0 hk (fun i v σ' H2 H3 hi p y => by
    obtain ⟨T, x1, x2, x3, rfl, nT, rfl, e1, e2, e3⟩ := y
    exact hs i x1 x2 x3 T σ' H2 e1 e2 e3 p nT) hd
end
end Dw
end
section
/-! products of tables -/
namespace LD
open M20 M25 CL
def dv (m : Nat) (r : List Nat) : List Nat := r.map fun k => k / m
def md (m : Nat) (r : List Nat) : List Nat := r.map fun k => k % m
def prodT (n m p : Nat) (t1 t2 : List Nat) : List Nat := (rows (n * m) p).map fun r => g t1 (plc n (dv m r)) * m + g t2 (plc m (md m r))
theorem dv_low {n m : Nat} (m1 : 1 ≤ m) {r : List Nat} (h : ∀ x ∈ r, x < n * m) : ∀ x ∈ dv m r, x < n := fun x hx => by
  obtain ⟨k, hk, rfl⟩ := List.mem_map.mp hx
  exact (Nat.div_lt_iff_lt_mul (by omega)).mpr (h k hk)
theorem md_low {m : Nat} (m1 : 1 ≤ m) {r : List Nat} : ∀ x ∈ md m r, x < m := fun x hx => by
  obtain ⟨k, hk, rfl⟩ := List.mem_map.mp hx
  exact Nat.mod_lt _ (by omega)
theorem both_lt {n m a b : Nat} (ha : a < n) (hb : b < m) : a * m + b < n * m := by
  have : (a + 1) * m ≤ n * m := Nat.mul_le_mul_right m ha
  rw [Nat.add_mul, Nat.one_mul] at this
  omega
theorem both_dm {m a b : Nat} (hb : b < m) : (a * m + b) / m = a ∧ (a * m + b) % m = b := by
  refine ⟨?_, ?_⟩
  · rw [Nat.mul_comm, Nat.mul_add_div (by omega), Nat.div_eq_of_lt hb, Nat.add_zero]
  · rw [Nat.mul_comm, Nat.mul_add_mod, Nat.mod_eq_of_lt hb]
theorem prodT_len {n m p : Nat} {t1 t2 : List Nat} : (prodT n m p t1 t2).length = (n * m) ^ p := by
  unfold prodT
  rw [List.length_map, rows_len']
theorem prodT_at {n m p : Nat} {t1 t2 : List Nat} {i : Nat} {r : List Nat} (h : (rows (n * m) p)[i]? = some r) : (prodT n m p t1 t2)[i]? = some (g t1 (plc n (dv m r)) * m + g t2 (plc m (md m r))) := by
  unfold prodT
  rw [List.getElem?_map, h]
  rfl
theorem prodT_tab {n m p : Nat} {t1 t2 : List Nat} (p2 : p ≤ 2) (m1 : 1 ≤ m) (h1 : Tab n p t1) (h2 : Tab m p t2) : Tab (n * m) p (prodT n m p t1 t2) := ⟨prodT_len, fun k hk => by
  have hk2 : k < (rows (n * m) p).length := by rw [rows_len']; exact hk
  obtain ⟨l, lo⟩ := rows_of (List.getElem_mem hk2)
  have e := prodT_at (t1 := t1) (t2 := t2) (List.getElem?_eq_getElem hk2)
  have e2 := g_eq (show k < (prodT n m p t1 t2).length by rw [prodT_len]; exact hk)
  rw [e] at e2
  rw [← Option.some.inj e2]
  have a := plc_low (dv_low m1 lo) (by unfold dv; rw [List.length_map, l]; exact p2)
  have b := plc_low (md_low (r := (rows (n * m) p)[k]) m1) (by unfold md; rw [List.length_map, l]; exact p2)
  unfold dv at a ⊢
  unfold md at b ⊢
  rw [List.length_map, l] at a b
  exact both_lt (h1.low _ a) (h2.low _ b)⟩
theorem prodT_g {n m p : Nat} {t1 t2 : List Nat} (p2 : p ≤ 2) (nm : 0 < n * m) {r : List Nat} (h : r ∈ rows (n * m) p) : g (prodT n m p t1 t2) (plc (n * m) r) = g t1 (plc n (dv m r)) * m + g t2 (plc m (md m r)) := by
  obtain ⟨i, hi⟩ := List.mem_iff_getElem?.mp h
  obtain ⟨pe, il⟩ := rows_plc' p2 nm hi
  have e := prodT_at (t1 := t1) (t2 := t2) hi
  have e2 := g_eq (show i < (prodT n m p t1 t2).length by rw [prodT_len]; exact il)
  rw [e] at e2
  rw [pe]
  exact (Option.some.inj e2).symm
theorem mem_rows {n : Nat} : ∀ {p : Nat} {r : List Nat}, r.length = p → (∀ k ∈ r, k < n) → r ∈ rows n p
  | 0, r, l, _ => by
    rw [List.eq_nil_of_length_eq_zero l]
    exact List.mem_singleton_self _
  | p + 1, r, l, lo => by
    rcases List.eq_nil_or_concat r with e | ⟨i, x, e⟩
    · rw [e] at l; cases l
    · subst e
      rw [List.concat_eq_append] at l lo ⊢
      rw [List.length_append] at l
      refine List.mem_flatMap.mpr ⟨i, mem_rows (p := p) (by simpa using l) (fun k hk => lo k (List.mem_append.mpr (.inl hk))), List.mem_map.mpr ⟨x, List.mem_range.mpr (lo x (List.mem_append.mpr (.inr (List.mem_singleton_self _)))), rfl⟩⟩
theorem rows_nd (n p : Nat) : (rows n p).Nodup := (rows_lex n p).imp fun h e => by
  rw [e] at h
  exact List.lt_irrefl _ h
theorem g_map {f : Nat → Nat} {F : List Nat} {i : Nat} (h : i < F.length) : g (F.map f) i = f (g F i) := by
  have e := g_eq (show i < (F.map f).length by rw [List.length_map]; exact h)
  rw [List.getElem?_map, g_eq h] at e
  exact (Option.some.inj e).symm
theorem okC_prd {n m pl w : Nat} {F args t1 t2 : List Nat} (la : args.length = pl) (p2 : pl ≤ 2) (nm : 0 < n * m) (m1 : 1 ≤ m) (ha : ∀ x ∈ args, x < F.length) (hw : w < F.length) (lo : ∀ y ∈ F, y < n * m) (h1 : Tab n pl t1) (h2 : Tab m pl t2) :
    okC (n * m) F (args, w, prodT n m pl t1 t2) = (okC n (dv m F) (args, w, t1) && okC m (md m F) (args, w, t2)) := by
  have mem : args.map (g F) ∈ rows (n * m) pl := mem_rows (by rw [List.length_map, la]) fun k hk => by
    obtain ⟨x, hx, rfl⟩ := List.mem_map.mp hk
    exact lo _ (M25.g_mem (ha x hx))
  have e1 : args.map (g (dv m F)) = dv m (args.map (g F)) := by
    unfold dv
    rw [List.map_map]
    exact List.map_congr_left fun x hx => g_map (ha x hx)
  have e2 : args.map (g (md m F)) = md m (args.map (g F)) := by
    unfold md
    rw [List.map_map]
    exact List.map_congr_left fun x hx => g_map (ha x hx)
  have b := plc_low (md_low (r := args.map (g F)) m1) (by unfold md; rw [List.length_map, List.length_map, la]; exact p2)
  rw [show (md m (args.map (g F))).length = pl by unfold md; rw [List.length_map, List.length_map, la]] at b
  have bl := h2.low _ b
  unfold okC
  show decide (g F w = g (prodT n m pl t1 t2) (plc (n * m) (args.map (g F)))) = (decide (g (dv m F) w = g t1 (plc n (args.map (g (dv m F))))) && decide (g (md m F) w = g t2 (plc m (args.map (g (md m F))))))
  rw [prodT_g p2 nm mem, e1, e2, show g (dv m F) w = g F w / m from g_map hw, show g (md m F) w = g F w % m from g_map hw, Bool.eq_iff_iff, Bool.and_eq_true, decide_eq_true_eq, decide_eq_true_eq, decide_eq_true_eq]
  generalize g t1 (plc n (dv m (args.map (g F)))) = A
  generalize g t2 (plc m (md m (args.map (g F)))) = B at bl ⊢
  constructor
  · intro h
    rw [h]
    exact both_dm bl
  · rintro ⟨h3, h4⟩
    have := Nat.div_add_mod (g F w) m
    rw [h3, h4, Nat.mul_comm] at this
    exact this.symm
theorem all_and {α : Type} (f h : α → Bool) : ∀ l : List α, l.all (fun x => f x && h x) = (l.all f && l.all h)
  | [] => rfl
  | x :: l => by
    rw [List.all_cons, List.all_cons, List.all_cons, all_and f h l]
    cases f x <;> cases h x <;> cases l.all f <;> cases l.all h <;> rfl
def encP (m : Nat) (F : List Nat) : List Nat × List Nat := (dv m F, md m F)
theorem encP_inj {m : Nat} {F F' : List Nat} (h : encP m F = encP m F') : F = F' := by
  have h1 : dv m F = dv m F' := congrArg Prod.fst h
  have h2 : md m F = md m F' := congrArg Prod.snd h
  have len : F.length = F'.length := by
    have := congrArg List.length h1
    unfold dv at this
    rw [List.length_map, List.length_map] at this
    exact this
  apply List.ext_getElem?
  intro i
  by_cases hi : i < F.length
  · have a1 := congrArg (fun l => l[i]?) h1
    have a2 := congrArg (fun l => l[i]?) h2
    unfold dv at a1
    unfold md at a2
    simp only [List.getElem?_map, List.getElem?_eq_getElem hi, List.getElem?_eq_getElem (len ▸ hi), Option.map_some, Option.some.injEq] at a1 a2
    rw [List.getElem?_eq_getElem hi, List.getElem?_eq_getElem (len ▸ hi)]
    congr 1
    have b1 := Nat.div_add_mod F[i] m
    have b2 := Nat.div_add_mod (F'[i]'(len ▸ hi)) m
    rw [a1, a2] at b1
    exact b1.symm.trans b2
  · rw [List.getElem?_eq_none (by omega), List.getElem?_eq_none (by omega)]
theorem enc_zip {m : Nat} : ∀ {a b : List Nat}, a.length = b.length → (∀ y ∈ b, y < m) → encP m (List.zipWith (fun x y => x * m + y) a b) = (a, b)
  | [], [], _, _ => rfl
  | x :: a, y :: b, l, lo => by
    have ih := enc_zip (a := a) (b := b) (Nat.succ.inj l) fun z hz => lo z (List.mem_cons_of_mem _ hz)
    have yl := lo y (List.mem_cons_self ..)
    obtain ⟨e1, e2⟩ := both_dm (a := x) yl
    have i1 := congrArg Prod.fst ih
    have i2 := congrArg Prod.snd ih
    show ((x * m + y) / m :: dv m _, (x * m + y) % m :: md m _) = _
    rw [e1, e2]
    congr 1
    · exact congrArg (List.cons x) i1
    · exact congrArg (List.cons y) i2
/-- the leads into a product are the pairs of leads -/
theorem pairs_perm {n m k : Nat} (m1 : 1 ≤ m) {P P1 P2 : List Nat → Bool} (h : ∀ F ∈ rows (n * m) k, P F = (P1 (dv m F) && P2 (md m F))) :
    (((rows (n * m) k).filter P).map (encP m)).Perm (((rows n k).filter P1).flatMap fun f => ((rows m k).filter P2).map fun s => (f, s)) := by
  have nd1 : (((rows (n * m) k).filter P).map (encP m)).Nodup := by
    refine List.Pairwise.map _ (fun a b hab e => hab (encP_inj e)) ((rows_nd (n * m) k).filter _)
  have nd2 : (((rows n k).filter P1).flatMap fun f => ((rows m k).filter P2).map fun s => (f, s)).Nodup := by
    show List.Pairwise _ _
    rw [List.pairwise_flatMap]
    refine ⟨fun f _ => ?_, ((rows_nd n k).filter _).imp fun {a b} hab x hx y hy e => ?_⟩
    · exact List.Pairwise.map _ (fun a b hab e => hab (congrArg Prod.snd e)) ((rows_nd m k).filter _)
    · obtain ⟨_, _, rfl⟩ := List.mem_map.mp hx
      obtain ⟨_, _, rfl⟩ := List.mem_map.mp hy
      exact hab (congrArg Prod.fst e)
  rw [List.perm_ext_iff_of_nodup nd1 nd2]
  intro x
  constructor
  · intro hx
    obtain ⟨F, hF, rfl⟩ := List.mem_map.mp hx
    obtain ⟨mF, pF⟩ := List.mem_filter.mp hF
    rw [h F mF, Bool.and_eq_true] at pF
    obtain ⟨l, lo⟩ := rows_of mF
    exact List.mem_flatMap.mpr ⟨dv m F, List.mem_filter.mpr ⟨mem_rows (by unfold dv; rw [List.length_map, l]) (dv_low m1 lo), pF.1⟩, List.mem_map.mpr ⟨md m F, List.mem_filter.mpr ⟨mem_rows (by unfold md; rw [List.length_map, l]) (md_low m1), pF.2⟩, rfl⟩⟩
  · intro hx
    obtain ⟨f, hf, hx⟩ := List.mem_flatMap.mp hx
    obtain ⟨s, hs, rfl⟩ := List.mem_map.mp hx
    obtain ⟨mf, pf⟩ := List.mem_filter.mp hf
    obtain ⟨ms, ps⟩ := List.mem_filter.mp hs
    obtain ⟨lf, lof⟩ := rows_of mf
    obtain ⟨ls, los⟩ := rows_of ms
    have ez := enc_zip (m := m) (a := f) (b := s) (by rw [lf, ls]) los
    have mz : List.zipWith (fun x y => x * m + y) f s ∈ rows (n * m) k := mem_rows (by rw [List.length_zipWith, lf, ls, Nat.min_self]) fun y hy => by
      obtain ⟨i, hi⟩ := List.mem_iff_getElem?.mp hy
      rw [List.getElem?_zipWith] at hi
      cases ha : f[i]? with
      | none => rw [ha] at hi; simp at hi
      | some a =>
        cases hb : s[i]? with
        | none => rw [ha, hb] at hi; simp at hi
        | some b =>
          rw [ha, hb] at hi
          have := Option.some.inj hi
          rw [← this]
          exact both_lt (lof a (List.mem_iff_getElem?.mpr ⟨i, ha⟩)) (los b (List.mem_iff_getElem?.mpr ⟨i, hb⟩))
    refine List.mem_map.mpr ⟨_, List.mem_filter.mpr ⟨mz, ?_⟩, ez⟩
    have e1 : dv m (List.zipWith (fun x y => x * m + y) f s) = f := congrArg Prod.fst ez
    have e2 : md m (List.zipWith (fun x y => x * m + y) f s) = s := congrArg Prod.snd ez
    rw [h _ mz, e1, e2, pf, ps]
    rfl
end LD
end
section
namespace K73
open PySem PySem.Spec PyProof.Rows L2 Evl Dw M20
open C8 (fnScope_by)
/-! ### the text -/
def topS (i : Nat) : Stmt := PySem.Challenge.pw_deedworlds_k73_products_and_sides.main.body.getD i (.Pass ⟨0, 0, 0, 0⟩)
abbrev s_is_whole : Stmt := topS 1
theorem sc_is_whole : FnScope ["thing"] ["thing"] (defScope s_is_whole) := fnScope_by (by decide +kernel)
abbrev s_is_below : Stmt := topS 2
theorem sc_is_below : FnScope ["thing", "size"] ["thing", "size"] (defScope s_is_below) := fnScope_by (by decide +kernel)
abbrev s_is_row : Stmt := topS 3
theorem sc_is_row : FnScope ["thing", "many", "size", "number"] ["thing", "many", "size"] (defScope s_is_row) := fnScope_by (by decide +kernel)
abbrev s_power : Stmt := topS 4
theorem sc_power : FnScope ["base", "many", "told", "step"] ["base", "many"] (defScope s_power) := fnScope_by (by decide +kernel)
abbrev s_rows_below : Stmt := topS 5
theorem sc_rows_below : FnScope ["size", "many", "rows", "step", "row", "number"] ["size", "many"] (defScope s_rows_below) := fnScope_by (by decide +kernel)
abbrev s_place_of_row : Stmt := topS 6
theorem sc_place_of_row : FnScope ["size", "row", "place", "number"] ["size", "row"] (defScope s_place_of_row) := fnScope_by (by decide +kernel)
abbrev s_cells_in_order : Stmt := topS 13
theorem sc_cells_in_order : FnScope ["signature", "size", "cells", "top", "name", "places", "args"] ["signature", "size"] (defScope s_cells_in_order) := fnScope_by (by decide +kernel)
abbrev s_table_of : Stmt := topS 15
theorem sc_table_of : FnScope ["signature", "tables", "name", "deed", "table"] ["signature", "tables", "name"] (defScope s_table_of) := fnScope_by (by decide +kernel)
abbrev s_cells_with_worths : Stmt := topS 16
theorem sc_cells_with_worths : FnScope ["signature", "model", "told", "name", "places", "table", "args", "worth"] ["signature", "model"] (defScope s_cells_with_worths) := fnScope_by (by decide +kernel)
abbrev s_is_name : Stmt := topS 23
theorem sc_is_name : FnScope ["thing", "sign"] ["thing"] (defScope s_is_name) := fnScope_by (by decide +kernel)
abbrev s_is_deed : Stmt := topS 24
theorem sc_is_deed : FnScope ["thing"] ["thing"] (defScope s_is_deed) := fnScope_by (by decide +kernel)
abbrev s_signature_wrong : Stmt := topS 25
theorem sc_signature_wrong : FnScope ["thing", "k", "deed", "names", "name"] ["thing"] (defScope s_signature_wrong) := fnScope_by (by decide +kernel)
abbrev s_need_signature : Stmt := topS 26
theorem sc_need_signature : FnScope ["signature"] ["signature"] (defScope s_need_signature) := fnScope_by (by decide +kernel)
abbrev s_is_size : Stmt := topS 28
theorem sc_is_size : FnScope ["thing"] ["thing"] (defScope s_is_size) := fnScope_by (by decide +kernel)
abbrev s_first_odd_cell : Stmt := topS 29
theorem sc_first_odd_cell : FnScope ["size", "tables", "k", "table", "at", "number"] ["size", "tables"] (defScope s_first_odd_cell) := fnScope_by (by decide +kernel)
abbrev s_model_wrong : Stmt := topS 31
theorem sc_model_wrong : FnScope ["signature", "thing", "size", "tables", "k", "deed", "odd"] ["signature", "thing"] (defScope s_model_wrong) := fnScope_by (by decide +kernel)
abbrev s_need_model : Stmt := topS 32
theorem sc_need_model : FnScope ["signature", "model"] ["signature", "model"] (defScope s_need_model) := fnScope_by (by decide +kernel)
abbrev s_need_two_models : Stmt := topS 33
theorem sc_need_two_models : FnScope ["signature", "one", "other"] ["signature", "one", "other"] (defScope s_need_two_models) := fnScope_by (by decide +kernel)
abbrev s_cells_by_greatest : Stmt := topS 35
theorem sc_cells_by_greatest : FnScope ["signature", "one", "other", "told", "name", "args", "worth", "number"] ["signature", "one", "other"] (defScope s_cells_by_greatest) := fnScope_by (by decide +kernel)
abbrev s_leads_on : Stmt := topS 36
theorem sc_leads_on : FnScope ["cells", "size", "images", "args", "worth", "table", "arg"] ["cells", "size", "images"] (defScope s_leads_on) := fnScope_by (by decide +kernel)
abbrev s_leads : Stmt := topS 37
theorem sc_leads : FnScope ["signature", "one", "other", "size", "begins", "cells", "longer", "images", "number"] ["signature", "one", "other"] (defScope s_leads) := fnScope_by (by decide +kernel)
abbrev s_has_lead_form : Stmt := topS 38
theorem sc_has_lead_form : FnScope ["one", "other", "thing"] ["one", "other", "thing"] (defScope s_has_lead_form) := fnScope_by (by decide +kernel)
abbrev s_first_odd_lead : Stmt := topS 39
theorem sc_first_odd_lead : FnScope ["signature", "one", "other", "images", "name", "args", "worth"] ["signature", "one", "other", "images"] (defScope s_first_odd_lead) := fnScope_by (by decide +kernel)
abbrev s_lead_wrong : Stmt := topS 41
theorem sc_lead_wrong : FnScope ["signature", "one", "other", "thing", "odd"] ["signature", "one", "other", "thing"] (defScope s_lead_wrong) := fnScope_by (by decide +kernel)
abbrev s_lead_judged : Stmt := topS 42
theorem sc_lead_judged : FnScope ["signature", "one", "other", "thing"] ["signature", "one", "other", "thing"] (defScope s_lead_judged) := fnScope_by (by decide +kernel)
abbrev s_need_product : Stmt := topS 43
theorem sc_need_product : FnScope ["signature", "one", "other"] ["signature", "one", "other"] (defScope s_need_product) := fnScope_by (by decide +kernel)
abbrev s_product_table : Stmt := topS 44
theorem sc_product_table : FnScope ["one", "other", "places", "first", "second", "told", "args", "left", "right", "arg"] ["one", "other", "places", "first", "second"] (defScope s_product_table) := fnScope_by (by decide +kernel)
abbrev s_product : Stmt := topS 45
theorem sc_product : FnScope ["signature", "one", "other", "tables", "name", "places", "first", "second"] ["signature", "one", "other"] (defScope s_product) := fnScope_by (by decide +kernel)
abbrev s_sides : Stmt := topS 46
theorem sc_sides : FnScope ["signature", "one", "other", "pairs", "number", "pair"] ["signature", "one", "other"] (defScope s_sides) := fnScope_by (by decide +kernel)
abbrev s_purse : Stmt := topS 48
theorem sc_purse : FnScope ["_law_script", "_law_cells", "_law_j"] ["_law_script"] (defScope s_purse) := fnScope_by (by decide +kernel)
abbrev s_draw : Stmt := topS 49
theorem sc_draw : FnScope ["_law_purse_here", "_law_out_of", "_law_cells", "_law_went", "_law_where", "_law_cell", "_law_figure"] ["_law_purse_here", "_law_out_of"] (defScope s_draw) := fnScope_by (by decide +kernel)
abbrev s_pick : Stmt := topS 50
theorem sc_pick : FnScope ["_law_purse_here", "_law_some"] ["_law_purse_here", "_law_some"] (defScope s_pick) := fnScope_by (by decide +kernel)
abbrev s_signature : Stmt := topS 51
theorem sc_signature : FnScope ["_law_purse_here", "_law_some"] ["_law_purse_here"] (defScope s_signature) := fnScope_by (by decide +kernel)
abbrev s_ways : Stmt := topS 52
theorem sc_ways : FnScope ["_law_many", "_law_size", "_law_found", "_law_k", "_law_longer", "_law_way_here", "_law_number"] ["_law_many", "_law_size"] (defScope s_ways) := fnScope_by (by decide +kernel)
abbrev s_table : Stmt := topS 53
theorem sc_table : FnScope ["_law_purse_here", "_law_many", "_law_size", "_law_way_here", "_law_by", "_law_found", "_law_args", "_law_worth"] ["_law_purse_here", "_law_many", "_law_size"] (defScope s_table) := fnScope_by (by decide +kernel)
abbrev s_mdl : Stmt := topS 54
theorem sc_mdl : FnScope ["_law_purse_here", "_law_signature_here", "_law_size", "_law_name", "_law_many"] ["_law_purse_here", "_law_signature_here", "_law_size"] (defScope s_mdl) := fnScope_by (by decide +kernel)
abbrev s_did : Stmt := topS 55
theorem sc_did : FnScope ["_law_signature_here", "_law_model_here", "_law_name", "_law_args", "_law_size", "_law_tables_here", "_law_k", "_law_at", "_law_arg", "_law_word", "_law_many"] ["_law_signature_here", "_law_model_here", "_law_name", "_law_args"] (defScope s_did) := fnScope_by (by decide +kernel)
abbrev s_both : Stmt := topS 56
theorem sc_both : FnScope ["_law_signature_here", "_law_one", "_law_other", "_law_wide", "_law_tables_here", "_law_name", "_law_many", "_law_table_here", "_law_args", "_law_first", "_law_arg"] ["_law_signature_here", "_law_one", "_law_other"] (defScope s_both) := fnScope_by (by decide +kernel)
abbrev s_refused : Stmt := topS 57
theorem sc_refused : FnScope ["_law_way_here", "_law_signature_here", "_law_one", "_law_other", "_law_caught", "e"] ["_law_way_here", "_law_signature_here", "_law_one", "_law_other"] (defScope s_refused) := fnScope_by (by decide +kernel)
abbrev s_right : Stmt := topS 58
theorem sc_right : FnScope ["_law_signature_here", "_law_one", "_law_other", "_law_third", "_law_due", "_law_found", "_law_ends", "_law_model_here", "_law_end", "_law_pairs", "_law_first", "_law_met", "_law_kept", "_law_second", "_law_k", "_law_lead"] ["_law_signature_here", "_law_one", "_law_other", "_law_third"] (defScope s_right) := fnScope_by (by decide +kernel)
abbrev s_law : Stmt := topS 59
theorem sc_law : FnScope ["_law_script", "_law_purse_here", "_law_every", "_law_size", "_law_time", "_law_signature_here", "_law_sizes", "_law_one", "_law_other", "_law_third", "_law_great", "_law_many", "_law_pair"] ["_law_script"] (defScope s_law) := fnScope_by (by decide +kernel)
/-- what the module's names hold -/
structure Txt (mg : Str → Option Value) : Prop where
  z_abs : mg "abs" = none
  z_all : mg "all" = none
  z_bool : mg "bool" = none
  z_ValueError : mg "ValueError" = none
  z_divmod : mg "divmod" = none
  z_enumerate : mg "enumerate" = none
  z_int : mg "int" = none
  z_isinstance : mg "isinstance" = none
  z_len : mg "len" = none
  z_list : mg "list" = none
  z_max : mg "max" = none
  z_min : mg "min" = none
  z_range : mg "range" = none
  z_repr : mg "repr" = none
  z_sorted : mg "sorted" = none
  z_str : mg "str" = none
  z_sum : mg "sum" = none
  z_tuple : mg "tuple" = none
  z_zip : mg "zip" = none
  z_set : mg "set" = none
  c_NAME_LETTERS : ∃ t, mg "NAME_LETTERS" = some (.str "abcdefghijklmnopqrst" t)
  c_MOST_NAME : ∃ t, mg "MOST_NAME" = some (.int 4 t)
  c_MOST_DEEDS : ∃ t, mg "MOST_DEEDS" = some (.int 4 t)
  c_MOST_PLACES : ∃ t, mg "MOST_PLACES" = some (.int 2 t)
  c_MOST_SIZE : ∃ t, mg "MOST_SIZE" = some (.int 6 t)
section
variable {X : Cx} {x : Str} {pos : Pos}
theorem pe_gi {i : Int} (hg : Gl X x) (h : ∃ t, X.mg x = some (.int i t)) (hn : x ≠ "__name__" := by decide) (hd : (x == ("__debug__" : Str)) = false := by decide) : PE X (.Name x pos) (tC (.int i)) := by
  obtain ⟨t, e⟩ := h
  exact pe_glob hg e ⟨t, rfl⟩ (hd := hd)
theorem pe_gs {z : Str} (hg : Gl X x) (h : ∃ t, X.mg x = some (.str z t)) (hn : x ≠ "__name__" := by decide) (hd : (x == ("__debug__" : Str)) = false := by decide) : PE X (.Name x pos) (tC (.str z)) := by
  obtain ⟨t, e⟩ := h
  exact pe_glob hg e ⟨t, rfl⟩ (hd := hd)
theorem pe_ty (n : String) (hg : Gl X x) (hm : X.mg x = none) (hv : bootBuiltins x = some (.type n)) (hn : x ≠ "__name__" := by decide) (hd : (x == ("__debug__" : Str)) = false := by decide) : PE X (.Name x pos) (tC (.ty n)) := pe_bltn hg hm hv rfl (hn := hn) (hd := hd)
theorem ip_mul : PIp X .Mult (rI CMul fun i j => .int (i * j)) := iop_mul
end
section
variable {P : Program} {w : World} {K : PySem.W.Frag} {mg : Str → Option Value} {base : Heap}
/-! ### is_whole, is_below, power -/
def sp_is_whole : Sp := spX (fun (i : Int) vs _ => vs = [.int i]) (fun _ v _ => v = .bl true)
theorem c_is_whole (T : Txt mg) (D : Df K mg "is_whole" s_is_whole ["thing"]) : Cl P w K mg base 1 "is_whole" sp_is_whole := by
  refine cl_of (k := 0) D sc_is_whole (fun vs H Q E h => ?_) (fun f cdv A outer s H vs Q E hr h => ?_)
  · obtain ⟨i, rfl, _⟩ := h
    rfl
  · obtain ⟨i, rfl, q⟩ := h
    refine ⟨_, (pss_one (ps_ret (pe_and (pe_callB call_isi (by rfl) T.z_isinstance (by decide +kernel) (pa_cons (pv 0) (pa_cons (pe_ty "int" (by rfl) T.z_int (by decide +kernel)) pa_nil))) (pe_one (pe_not (pe_callB call_isi (by rfl) T.z_isinstance (by decide +kernel) (pa_cons (pv 0) (pa_cons (pe_ty "bool" (by rfl) T.z_bool (by decide +kernel)) pa_nil)))))))), ?_⟩
    exact s_ret (ev_andV (ev_isi (ev_var rfl) ev_c (.ty _) (fun _ _ => tyx_int i) kit_ii) (fun _ => ev_notV (ev_isi (ev_var rfl) ev_c (.ty _) (fun _ _ => tyx_int i) kit_ib))) fun H1 e => q _ H1 e rfl
def sp_is_below : Sp := spX (fun (p : Int × Int) vs _ => vs = [.int p.1, .int p.2] ∧ 0 ≤ p.1 ∧ p.1 < p.2) (fun _ v _ => v = .bl true)
theorem c_is_below (T : Txt mg) (D : Df K mg "is_below" s_is_below ["thing", "size"]) (c_is_whole : Cl P w K mg base 1 "is_whole" sp_is_whole) : Cl P w K mg base 2 "is_below" sp_is_below := by
  refine cl_of (k := 1) D sc_is_below (fun vs H Q E h => ?_) (fun f cdv A outer s H vs Q E hr h => ?_)
  · obtain ⟨p, ⟨rfl, _⟩, _⟩ := h
    rfl
  · obtain ⟨⟨i, n⟩, ⟨rfl, h0, h1⟩, q⟩ := h
    refine ⟨_, (pss_one (ps_ret (pe_and (pe_cl c_is_whole hr (by first | decide | omega) (by rfl) (pa_cons (pv 0) pa_nil)) (pe_one (pe_chain op_le op_lt pe_int (pv 0) (pv 1)))))), ?_⟩
    refine s_ret (ev_andV (ev_callV (v := .bl true) i (ea_cons (ev_var rfl) ea_nil) (fun _ _ => rfl) (fun _ _ p => p)) (fun _ => ev_chain ev_c (ev_var rfl) (fun _ => ev_var rfl) rv_I0 (fun _ => rv_I0))) fun H1 e => q _ H1 e ?_
    show V.bl (true && (decide (0 ≤ i) && decide (i < n))) = _
    rw [decide_eq_true h0, decide_eq_true h1]
    rfl
def sp_power : Sp := spX (fun (p : Nat × Nat) vs _ => vs = [vi p.1, vi p.2] ∧ p.1 ≤ 6 ∧ p.2 ≤ 2) (fun p v _ => v = vi (p.1 ^ p.2))
theorem c_power (T : Txt mg) (D : Df K mg "power" s_power ["base", "many"]) : Cl P w K mg base 1 "power" sp_power := by
  refine cl_of (k := 0) D sc_power (fun vs H Q E h => ?_) (fun f cdv A outer s H vs Q E hr h => ?_)
  · obtain ⟨p, ⟨rfl, _⟩, _⟩ := h
    rfl
  · obtain ⟨⟨b, m⟩, ⟨rfl, hb, hm⟩, q⟩ := h
    refine ⟨_, (pss_cons (ps_set (i := 2) sc_power.nd rfl (.inl rfl) pe_int)
      (pss_cons (ps_for PassesOwn.never (by rfl) (pi_range1 (by rfl) T.z_range (pa_cons (pv 1) pa_nil)) (pg_name (i := 3) sc_power.nd rfl (.inl rfl))
        (pss_one (ps_aug (i := 2) sc_power.nd rfl (.inl rfl) (pv 0) ip_mul)))
      (pss_one (ps_ret (pv 2))))), ?_⟩
    refine q_asg ev_c fun H1 e1 => ?_
    refine q_forR1 (ea_cons (ev_var rfl) ea_nil) (by omega) (fun i σ H' => ∃ y, σ = [some (vi b), some (vi m), some (vi (b ^ i)), y] ∧ Ex H H') (fun H2 e2 => ⟨none, rfl, e1.trans e2⟩) (fun i σ H' hi ⟨y, hσ, e⟩ => ?_) (fun σ H' ⟨y, hσ, e⟩ => ?_)
    · subst hσ
      refine ⟨_, rfl, _, rfl, ((b ^ i : Nat) : Int), (b : Int), rfl, rfl, .inr ⟨by omega, by omega⟩, some (vi i), ?_, e⟩
      show [some (vi b), some (vi m), some (.int (((b ^ i : Nat) : Int) * (b : Int))), some (vi i)] = [some (vi b), some (vi m), some (vi (b ^ (i + 1))), some (vi i)]
      rw [Nat.pow_succ]
      show _ = [some (vi b), some (vi m), some (.int ((b ^ i * b : Nat) : Int)), some (vi i)]
      rw [Int.natCast_mul]
    · subst hσ
      exact s_ret (ev_var rfl) fun H2 e2 => q _ H2 (e.trans e2) rfl
end
end K73
end
section
namespace K73
open PySem PySem.Spec PyProof.Rows L2 Evl Dw M20
section
variable {P : Program} {w : World} {K : PySem.W.Frag} {mg : Str → Option Value} {base : Heap}
theorem ix_tupK {X : Cx} (K : PySem.W.Frag) (h : X.K = K := by rfl) : IxR X (rIxT K) := by
  subst h
  exact ix_tup
/-! ### names, deeds, signatures -/
def letters : Str := "abcdefghijklmnopqrst"
structure Name (z : Str) : Prop where
  l1 : 1 ≤ z.length
  l4 : z.length ≤ 4
  abc : ∀ c ∈ z.cps.toList, c ∈ letters.cps.toList
def sp_is_name : Sp := spX (fun (z : Str) vs _ => vs = [.str z] ∧ Name z) (fun _ v _ => v = .bl true)
theorem c_is_name (T : Txt mg) (D : Df K mg "is_name" s_is_name ["thing"]) : Cl P w K mg base 1 "is_name" sp_is_name := by
  refine cl_of (k := 0) D sc_is_name (fun vs H Q E h => ?_) (fun f cdv A outer s H vs Q E hr h => ?_)
  · obtain ⟨p, ⟨rfl, _⟩, _⟩ := h
    rfl
  · obtain ⟨z, ⟨rfl, hz⟩, q⟩ := h
    refine ⟨_, (pss_cons (ps_if (PW.pt (pw_or (pt_not (pt_val (pe_callB call_isi (by rfl) T.z_isinstance (by decide +kernel) (pa_cons (pv 0) (pa_cons (pe_ty "str" (by rfl) T.z_str (by decide +kernel)) pa_nil))))) (pw_or1 (pt_not (pt_chain op_le op_le pe_int (pe_callB call_len_str (by rfl) T.z_len PySem.boot_len (pa_cons (pv 0) pa_nil)) (pe_gi (by rfl) T.c_MOST_NAME))))))
        (pss_one (ps_ret pe_bl))
        pss_nil)
      (pss_one (ps_ret (pe_callB (cr_all rfl) (by rfl) T.z_all (by decide +kernel) (pa_cons (pe_lc (own := [("sign", 1)]) (g := (gName 1)) (by rfl) sc_is_name.nd (pi_str (pv 0)) (blkOk_by (own := [("sign", 1)]) (N := ["thing", "sign"]) (sc := (defScope s_is_name)) (by decide +kernel)) (fun _ _ _ _ _ => (pg_name (i := 1) sc_is_name.nd rfl (.inl rfl))) (fun _ _ _ _ _ => pts_nil) (fun _ _ _ _ _ => (pe_cmpR op_in_sign (pv 1) (pe_gs (by rfl) T.c_NAME_LETTERS) (by rfl)))) pa_nil))))), ?_⟩
    have h1 := hz.l1
    have h4 := hz.l4
    have hs : z.cps.size = z.length := rfl
    refine q_when (b := false) (et_is (et_or (et_not (et_val (ev_isi (ev_var rfl) ev_c (.ty _) (fun _ _ => tyx_str z) kit_ss))) (fun _ => et_not (et_test (ev_chain ev_c (ev_lenS (ev_var rfl) (by omega)) (fun _ => ev_c) rv_I0 (fun _ => rv_I0))))) ?_) (fun hb => by cases hb) (fun _ H1 e1 => ?_)
    · show (!true || !(decide ((1 : Int) ≤ (z.length : Int)) && decide ((z.length : Int) ≤ 4))) = false
      rw [decide_eq_true (by omega), decide_eq_true (by omega)]
      rfl
    · refine s_ret (ev_all (bs := List.replicate z.cps.size true) ?_) fun H2 e2 => q _ H2 (e1.trans e2) ?_
      · have e : (List.replicate z.cps.size true).map V.bl = (List.range z.cps.size).map (fun _ => V.bl true) := by
          rw [List.map_const', List.length_range, List.map_replicate]
        rw [e]
        refine el_lcS (ev_var rfl) (fun _ => .bl true) (by omega) (fun _ => rfl) (fun i c H2 e2 hc => ?_)
        refine ev_op (ev_var rfl) ev_c ?_
        have hm : c ∈ letters.cps.toList := hz.abc c (by
          obtain ⟨hi, e⟩ := Array.getElem?_eq_some_iff.mp hc
          rw [← e]
          exact Array.getElem_mem_toList hi)
        exact fun H3 _ Q q3 => ⟨c, letters, rfl, rfl, by rw [decide_eq_true hm]; exact q3 H3 (Ex.refl H3)⟩
      · show V.bl ((List.replicate z.cps.size true).all id) = V.bl true
        rw [show (List.replicate z.cps.size true).all id = true from List.all_eq_true.mpr (fun b hb => (List.mem_replicate.mp hb).2)]
def sp_is_deed (K : PySem.W.Frag) : Sp := spX (fun (p : Str × Nat) vs H => (∃ v, vs = [v] ∧ Deed K H v p) ∧ Name p.1 ∧ p.2 ≤ 2) (fun _ v _ => v = .bl true)
theorem c_is_deed (T : Txt mg) (D : Df K mg "is_deed" s_is_deed ["thing"]) (c_is_name : Cl P w K mg base 1 "is_name" sp_is_name) (c_is_below : Cl P w K mg base 2 "is_below" sp_is_below) : Cl P w K mg base 3 "is_deed" (sp_is_deed K) := by
  refine cl_of (k := 2) D sc_is_deed (fun vs H Q E h => ?_) (fun f cdv A outer s H vs Q E hr h => ?_)
  · obtain ⟨p, ⟨⟨v, rfl, _⟩, _⟩, _⟩ := h
    rfl
  · obtain ⟨⟨z, p⟩, ⟨⟨v, rfl, b, rfl, hb⟩, hz, hp⟩, q⟩ := h
    refine ⟨_, (pss_one (ps_ret (pe_and (pe_callB call_isi (by rfl) T.z_isinstance (by decide +kernel) (pa_cons (pv 0) (pa_cons (pe_ty "tuple" (by rfl) T.z_tuple (by decide +kernel)) pa_nil))) (pe_and (pe_cmpR op_eq (pe_callB call_len_seq (by rfl) T.z_len PySem.boot_len (pa_cons (pv 0) pa_nil)) pe_int (nomark _)) (pe_and (pe_cl c_is_name hr (by first | decide | omega) (by rfl) (pa_cons (pe_ix ix_tup (pv 0) pe_int (fun _ _ => rfl)) pa_nil)) (pe_one (pe_cl c_is_below hr (by first | decide | omega) (by rfl) (pa_cons (pe_ix ix_tup (pv 0) pe_int (fun _ _ => rfl)) (pa_cons (pe_op op_add (pe_gi (by rfl) T.c_MOST_PLACES) pe_int) pa_nil))))))))), ?_⟩
    refine s_ret (ev_andV (ev_isi (ev_var rfl) ev_c (.ty _) (fun _ e => tyx_tup (ex_t e hb)) kit_tt) (fun _ => ev_andV (ev_op (ev_lenT (ev_var rfl) hb) ev_c (rv_eq rfl)) (fun _ =>
      ev_andV (ev_callV (v := .bl true) z (ea_cons (ev_op (ev_var rfl) ev_c (rv_ixT hb (atI_vi (k := 0) rfl))) ea_nil) (fun _ _ => ⟨rfl, hz⟩) (fun _ _ p => p)) (fun _ =>
        ev_callV (v := .bl true) (((p : Nat) : Int), (3 : Int)) (ea_cons (ev_op (ev_var rfl) ev_c (rv_ixT hb (atI_vi (k := 1) rfl))) (ea_cons (ev_op ev_c ev_c rv_I0) ea_nil)) (fun _ _ => ⟨rfl, by show (0 : Int) ≤ (p : Int); omega, by show (p : Int) < 3; have : p ≤ 2 := hp; omega⟩) (fun _ _ p => p))))) fun H1 e => q _ H1 e rfl
/-- a signature as the law draws it -/
structure SigOk (sg : List (Str × Nat)) : Prop where
  l1 : 1 ≤ sg.length
  l4 : sg.length ≤ 4
  nm : ∀ p ∈ sg, Name p.1
  pl : ∀ p ∈ sg, p.2 ≤ 2
  nd : (sg.map (·.1)).Nodup
def sp_signature_wrong (K : PySem.W.Frag) : Sp := spX (fun (sg : List (Str × Nat)) vs H => (∃ v, vs = [v] ∧ Sig K H v sg) ∧ SigOk sg) (fun _ v _ => v = .non)
theorem c_signature_wrong (T : Txt mg) (D : Df K mg "signature_wrong" s_signature_wrong ["thing"]) (c_is_deed : Cl P w K mg base 3 "is_deed" (sp_is_deed K)) : Cl P w K mg base 4 "signature_wrong" (sp_signature_wrong K) := by
  refine cl_of (k := 3) D sc_signature_wrong (fun vs H Q E h => ?_) (fun f cdv A outer s H vs Q E hr h => ?_)
  · obtain ⟨p, ⟨⟨v, rfl, _⟩, _⟩, _⟩ := h
    rfl
  · obtain ⟨sg, ⟨⟨v, rfl, a, us, rfl, hS, hP⟩, ok⟩, q⟩ := h
    refine ⟨_, (pss_cons (ps_if (PW.pt (pw_or (pt_not (pt_val (pe_callB call_isi (by rfl) T.z_isinstance (by decide +kernel) (pa_cons (pv 0) (pa_cons (pe_ty "tuple" (by rfl) T.z_tuple (by decide +kernel)) pa_nil))))) (pw_or1 (pt_not (pt_chain op_le op_le pe_int (pe_callB call_len_seq (by rfl) T.z_len PySem.boot_len (pa_cons (pv 0) pa_nil)) (pe_gi (by rfl) T.c_MOST_DEEDS))))))
        (pss_one (ps_ret (pe_tup (pa_cons pe_str pa_nil))))
        pss_nil)
      (pss_cons (ps_for PassesOwn.never (by rfl) (pi_enumT (by rfl) T.z_enumerate (pa_cons (pv 0) pa_nil)) (pg_tup (by rfl) (pgs_cons (pg_name (i := 1) sc_signature_wrong.nd rfl (.inl rfl)) (pgs_cons (pg_name (i := 2) sc_signature_wrong.nd rfl (.inl rfl)) pgs_nil)))
        (pss_one (ps_if (pt_not (pt_val (pe_cl c_is_deed hr (by first | decide | omega) (by rfl) (pa_cons (pv 2) pa_nil))))
          (pss_one (ps_ret (pe_tup (pa_cons pe_str (pa_cons (pv 1) pa_nil)))))
          pss_nil)))
      (pss_cons (ps_setLc (i := 3) (own := [("deed", 2)]) (g := (gName 2)) (by rfl) sc_signature_wrong.nd rfl rfl (sw_true rfl rfl rfl (by decide +kernel)) (pi_tup (pv 0)) (blkOk_by (own := [("deed", 2)]) (N := ["thing", "k", "deed", "names", "name"]) (sc := (defScope s_signature_wrong)) (by decide +kernel)) (fun _ _ _ _ _ => (pg_name (i := 2) sc_signature_wrong.nd rfl (.inl rfl))) (fun _ _ _ _ _ => pts_nil) (fun _ _ _ _ _ => (pe_ix (ix_tupK K) (pv 2) pe_int (fun _ _ => rfl))))
      (pss_cons (ps_for PassesOwn.never (by rfl) (pi_enum (by rfl) T.z_enumerate (pa_cons (pv 3) pa_nil)) (pg_tup (by rfl) (pgs_cons (pg_name (i := 1) sc_signature_wrong.nd rfl (.inl rfl)) (pgs_cons (pg_name (i := 4) sc_signature_wrong.nd rfl (.inl rfl)) pgs_nil)))
        (pss_one (ps_if (pt_cmpR op_in_seq (pv 4) (pe_slice sl_list (pv 3) po_none (po_some (pv 1))) (by rfl))
          (pss_one (ps_ret (pe_tup (pa_cons pe_str (pa_cons (pv 1) pa_nil)))))
          pss_nil)))
      (pss_one (ps_ret pe_non)))))), ?_⟩
    have h1 := ok.l1
    have h4 := ok.l4
    have hl : us.length = sg.length := paired_len hP
    refine q_when (b := false) (et_is (et_or (et_not (et_val (ev_isi (ev_var rfl) ev_c (.ty _) (fun _ e => tyx_tup (ex_t e hS)) kit_tt))) (fun _ => et_not (et_test (ev_chain ev_c (ev_lenT (ev_var rfl) hS) (fun _ => ev_c) rv_I0 (fun _ => rv_I0))))) ?_) (fun hb => by cases hb) (fun _ H1 e1 => ?_)
    · show (!true || !(decide ((1 : Int) ≤ (us.length : Int)) && decide ((us.length : Int) ≤ 4))) = false
      rw [decide_eq_true (by omega), decide_eq_true (by omega)]
      rfl
    -- each is a deed
    refine q_enumT (ea_cons (ev_var rfl) ea_nil) (ex_t e1 hS) (fun i σ H' => Ex H H' ∧ ∃ y1 y2, σ = [some (.ref a), y1, y2, none, none]) (fun H2 e2 => ⟨e1.trans e2, none, none, rfl⟩) (fun i σ H' _ ⟨e, _⟩ => ex_t e hS) (fun i x σ H2 H3 hx ⟨e, y1, y2, hσ⟩ e3 => ?_) (fun σ H2 ⟨e2, y1, y2, hσ⟩ => ?_)
    · subst hσ
      have hi : i < sg.length := by rw [← hl]; exact (List.getElem?_eq_some_iff.mp hx).1
      obtain ⟨x', ex', dx⟩ := paired_get hP (List.getElem?_eq_getElem hi)
      have : x' = x := Option.some.inj (ex'.symm.trans hx)
      subst this
      have hm : sg[i] ∈ sg := List.getElem_mem hi
      have e03 : Ex H H3 := e.trans e3
      refine s_when (b := false) (et_is (et_not (et_val (ev_callV (v := .bl true) sg[i] (ea_cons (ev_var rfl) ea_nil) (fun H4 e4 => ⟨⟨_, rfl, dx.et (Dw.Ex.et (e03.trans e4))⟩, ok.nm _ hm, ok.pl _ hm⟩) (fun _ _ p => p)))) rfl) (fun hb => by cases hb) (fun _ H4 e4 => ⟨e03.trans e4, _, _, rfl⟩)
    · subst hσ
      -- the names
      have names : EvL (tLc (iTup K (tVar 0)) (gName 2) tYes (tOp (rIxT K) (tVar 2) (tC (.int 0))) [2]) [some (.ref a), y1, y2, none, none] H2 ((List.range us.length).map fun i => .str (sg.getD i ("", 0)).1) := by
        refine el_lcT (ev_var rfl) (ex_t e2 hS) _ (by omega) (fun _ => rfl) (fun i x H3 e3 hx => ?_)
        have hi : i < sg.length := by rw [← hl]; exact (List.getElem?_eq_some_iff.mp hx).1
        obtain ⟨x', ex', b, hb, hd⟩ := paired_get hP (List.getElem?_eq_getElem hi)
        have : x' = x := Option.some.inj (ex'.symm.trans hx)
        subst this
        subst hb
        rw [List.getD_eq_getElem?_getD, List.getElem?_eq_getElem hi]
        exact ev_op (ev_var rfl) ev_c (rv_ixT (ex_t (e2.trans e3) hd) (atI_vi (k := 0) rfl))
      rw [hl] at names
      have eN : ((List.range sg.length).map fun i => V.str (sg.getD i ("", 0)).1) = (sg.map (·.1)).map V.str := by
        apply List.ext_getElem?
        intro i
        by_cases hi : i < sg.length
        · rw [List.getElem?_map, List.getElem?_range hi, List.getElem?_map, List.getElem?_map, List.getElem?_eq_getElem hi]
          show some (V.str (sg.getD i ("", 0)).1) = some (V.str sg[i].1)
          rw [List.getD_eq_getElem?_getD, List.getElem?_eq_getElem hi]
          rfl
        · rw [List.getElem?_eq_none_iff.mpr (by simp; omega), List.getElem?_eq_none_iff.mpr (by simp; omega)]
      rw [eN] at names
      refine q_asgL names fun p H3 np e3 hp => ?_
      have e03 : Ex H H3 := e2.trans e3
      refine q_enumL (K := K) (ea_cons (ev_var rfl) ea_nil) (sq_of hp) (fun i σ H' => Ex H3 H' ∧ ∃ z1 z4, σ = [some (.ref a), z1, y2, some (.ref p), z4]) (fun H4 e4 => ⟨e4, _, _, rfl⟩) (fun i σ H' _ ⟨e, _⟩ => ex_l e (sq_of hp)) (fun i x σ H4 H5 hx ⟨e4, z1, z4, hσ⟩ e5 => ?_) (fun σ H4 ⟨e4, z1, z4, hσ⟩ => ?_)
      · subst hσ
        have hi : i < (sg.map (·.1)).length := by simpa using (List.getElem?_eq_some_iff.mp hx).1
        have ex : x = .str (sg.map (·.1))[i] := by
          rw [List.getElem?_map, List.getElem?_eq_getElem hi] at hx
          exact (Option.some.inj hx).symm
        subst ex
        have cut : cutV ((sg.map (·.1)).map V.str) none (some (i : Int)) = ((sg.map (·.1)).take i).map V.str := by
          unfold cutV
          rw [HT.sIx_none, HT.sIx_nat, List.length_map, Nat.sub_zero, List.drop_zero, ← List.map_take, Nat.min_eq_left (Nat.le_of_lt hi)]
        have flat : (((sg.map (·.1)).take i).map V.str).all flatV = true := List.all_eq_true.mpr (fun v hv => by
          obtain ⟨z, _, rfl⟩ := List.mem_map.mp hv
          rfl)
        have out : inV (.str (sg.map (·.1))[i]) (((sg.map (·.1)).take i).map V.str) = false := by
          unfold inV
          rw [List.any_eq_false]
          intro v hv
          obtain ⟨z, hz, rfl⟩ := List.mem_map.mp hv
          show ¬ (z == (sg.map (·.1))[i]) = true
          intro he
          have he' : z = (sg.map (·.1))[i] := eq_of_beq he
          obtain ⟨j, hj, ej⟩ := List.mem_take_iff_getElem.mp hz
          have hji : j < i := by omega
          have := (List.getElem_inj ok.nd).mp (ej.trans he')
          omega
        have eL : Ex H3 H5 := e4.trans e5
        have sl : EvL (tSl (rSlL K) (tVar 3) tNoPart (tPart (tVar 1))) [some (.ref a), some (vi i), y2, some (.ref p), some (.str (sg.map (·.1))[i])] H5 (((sg.map (·.1)).take i).map V.str) := by
          rw [← cut]
          exact el_sl (ev_var rfl) eo_none (eo_some (ev_var rfl)) (ex_l eL (sq_of hp))
        exact s_when (b := false) (et_is (et_test (ev_opL (ev_var rfl) sl (fun r H6 hr6 _ => rv_isL (sq_of hr6) rfl flat))) out) (fun hb => by cases hb) (fun _ H6 e6 => ⟨eL.trans e6, _, _, rfl⟩)
      · subst hσ
        exact s_ret ev_c fun H5 e5 => q _ H5 ((e03.trans e4).trans e5) rfl
def sp_need_signature (K : PySem.W.Frag) : Sp := spX (fun (sg : List (Str × Nat)) vs H => (∃ v, vs = [v] ∧ Sig K H v sg) ∧ SigOk sg) (fun _ v _ => v = .non)
theorem c_need_signature (T : Txt mg) (D : Df K mg "need_signature" s_need_signature ["signature"]) (c_signature_wrong : Cl P w K mg base 4 "signature_wrong" (sp_signature_wrong K)) : Cl P w K mg base 5 "need_signature" (sp_need_signature K) := by
  refine cl_of (k := 4) D sc_need_signature (fun vs H Q E h => ?_) (fun f cdv A outer s H vs Q E hr h => ?_)
  · obtain ⟨p, ⟨⟨v, rfl, _⟩, _⟩, _⟩ := h
    rfl
  · obtain ⟨sg, ⟨⟨v, rfl, hS⟩, ok⟩, q⟩ := h
    refine ⟨_, (pss_one (ps_if (pt_cmpR op_notN (pe_cl c_signature_wrong hr (by first | decide | omega) (by rfl) (pa_cons (pv 0) pa_nil)) pe_non (nomark _))
        (pss_one ps_never)
        pss_nil)), ?_⟩
    exact s_when (b := false) (et_is (et_isN (ev_callV (v := .non) sg (ea_cons (ev_var rfl) ea_nil) (fun H1 e1 => ⟨⟨_, rfl, hS.ex e1⟩, ok⟩) (fun _ _ p => p))) rfl) (fun hb => by cases hb) (fun _ H1 e1 => q _ H1 e1 rfl)
/-! ### models looked at -/
def sp_is_size : Sp := spX (fun (n : Nat) vs _ => vs = [vi n] ∧ 1 ≤ n ∧ n ≤ 6) (fun _ v _ => v = .bl true)
theorem c_is_size (T : Txt mg) (D : Df K mg "is_size" s_is_size ["thing"]) (c_is_whole : Cl P w K mg base 1 "is_whole" sp_is_whole) : Cl P w K mg base 2 "is_size" sp_is_size := by
  refine cl_of (k := 1) D sc_is_size (fun vs H Q E h => ?_) (fun f cdv A outer s H vs Q E hr h => ?_)
  · obtain ⟨p, ⟨rfl, _⟩, _⟩ := h
    rfl
  · obtain ⟨n, ⟨rfl, h1, h6⟩, q⟩ := h
    refine ⟨_, (pss_one (ps_ret (pe_and (pe_cl c_is_whole hr (by first | decide | omega) (by rfl) (pa_cons (pv 0) pa_nil)) (pe_one (pe_chain op_le op_le pe_int (pv 0) (pe_gi (by rfl) T.c_MOST_SIZE)))))), ?_⟩
    refine s_ret (ev_andV (ev_callV (v := .bl true) (n : Int) (ea_cons (ev_var rfl) ea_nil) (fun _ _ => rfl) (fun _ _ p => p)) (fun _ => ev_chain ev_c (ev_var rfl) (fun _ => ev_c) rv_I0 (fun _ => rv_I0))) fun H1 e => q _ H1 e ?_
    show V.bl (true && (decide ((1 : Int) ≤ (n : Int)) && decide ((n : Int) ≤ 6))) = _
    rw [decide_eq_true (by omega), decide_eq_true (by omega)]
    rfl
def sp_first_odd_cell (K : PySem.W.Frag) : Sp := spX (fun (p : Nat × List (List Nat)) vs H => (∃ v, vs = [vi p.1, v] ∧ Tabs K H v p.2) ∧ ∀ t ∈ p.2, ∀ k ∈ t, k < p.1) (fun _ v _ => v = .non)
theorem c_first_odd_cell_models (T : Txt mg) (D : DfQ K mg "first_odd_cell_models" "first_odd_cell" s_first_odd_cell ["size", "tables"]) (c_is_below : Cl P w K mg base 2 "is_below" sp_is_below) : Cl P w K mg base 3 "first_odd_cell_models" (sp_first_odd_cell K) := by
  refine cl_ofQ (k := 2) D sc_first_odd_cell (fun vs H Q E h => ?_) (fun f cdv A outer s H vs Q E hr h => ?_)
  · obtain ⟨p, ⟨⟨v, rfl, _⟩, _⟩, _⟩ := h
    rfl
  · obtain ⟨⟨n, ts⟩, ⟨⟨v, rfl, a, us, rfl, hS, hP⟩, low⟩, q⟩ := h
    refine ⟨_, (pss_cons (ps_for PassesOwn.never (by rfl) (pi_enumT (by rfl) T.z_enumerate (pa_cons (pv 1) pa_nil)) (pg_tup (by rfl) (pgs_cons (pg_name (i := 2) sc_first_odd_cell.nd rfl (.inl rfl)) (pgs_cons (pg_name (i := 3) sc_first_odd_cell.nd rfl (.inl rfl)) pgs_nil)))
        (pss_one (ps_for PassesOwn.never (by rfl) (pi_enumT (by rfl) T.z_enumerate (pa_cons (pv 3) pa_nil)) (pg_tup (by rfl) (pgs_cons (pg_name (i := 4) sc_first_odd_cell.nd rfl (.inl rfl)) (pgs_cons (pg_name (i := 5) sc_first_odd_cell.nd rfl (.inl rfl)) pgs_nil)))
          (pss_one (ps_if (pt_not (pt_val (pe_cl c_is_below hr (by first | decide | omega) (by rfl) (pa_cons (pv 5) (pa_cons (pv 0) pa_nil)))))
            (pss_one (ps_ret (pe_tup (pa_cons (pv 2) (pa_cons (pv 4) pa_nil)))))
            pss_nil)))))
      (pss_one (ps_ret pe_non))), ?_⟩
    refine q_enumT (ea_cons (ev_var rfl) ea_nil) hS (fun i σ H' => Ex H H' ∧ ∃ y2 y3 y4 y5, σ = [some (vi n), some (.ref a), y2, y3, y4, y5]) (fun H2 e2 => ⟨e2, none, none, none, none, rfl⟩) (fun i σ H' _ ⟨e, _⟩ => ex_t e hS) (fun i x σ H2 H3 hx ⟨e, y2, y3, y4, y5, hσ⟩ e3 => ?_) (fun σ H2 ⟨e2, _, _, _, _, hσ⟩ => ?_)
    · subst hσ
      have hi : i < ts.length := by rw [← paired_len hP]; exact (List.getElem?_eq_some_iff.mp hx).1
      obtain ⟨x', ex', b, hb, hd⟩ := paired_get hP (List.getElem?_eq_getElem hi)
      have : x' = x := Option.some.inj (ex'.symm.trans hx)
      subst this
      subst hb
      have e03 : Ex H H3 := e.trans e3
      refine s_enumT (ea_cons (ev_var rfl) ea_nil) (ex_t e03 hd) (fun j σ H' => Ex H H' ∧ ∃ y4 y5, σ = [some (vi n), some (.ref a), some (vi i), some (.ref b), y4, y5]) (fun H4 e4 => ⟨e03.trans e4, _, _, rfl⟩) (fun j σ H' _ ⟨e, _⟩ => ex_t e hd) (fun j y σ H4 H5 hy ⟨e4, z4, z5, hσ⟩ e5 => ?_) (fun σ H4 ⟨e4, z4, z5, hσ⟩ => ?_)
      · subst hσ
        have hj : j < ts[i].length := by simpa using (List.getElem?_eq_some_iff.mp hy).1
        have ey : y = vi ts[i][j] := by
          rw [List.getElem?_map, List.getElem?_eq_getElem hj] at hy
          exact (Option.some.inj hy).symm
        subst ey
        have lo : ts[i][j] < n := low _ (List.getElem_mem hi) _ (List.getElem_mem hj)
        exact s_when (b := false) (et_is (et_not (et_val (ev_callV (v := .bl true) (((ts[i][j] : Nat) : Int), (n : Int)) (ea_cons (ev_var rfl) (ea_cons (ev_var rfl) ea_nil)) (fun H4 e4 => ⟨rfl, by show (0 : Int) ≤ ((ts[i][j] : Nat) : Int); omega, by show ((ts[i][j] : Nat) : Int) < (n : Int); omega⟩) (fun _ _ p => p)))) rfl) (fun hb => by cases hb) (fun _ H6 e6 => ⟨(e4.trans e5).trans e6, _, _, rfl⟩)
      · subst hσ
        exact ⟨e4, _, _, _, _, rfl⟩
    · subst hσ
      exact s_ret ev_c fun H3 e3 => q _ H3 (e2.trans e3) rfl
/-- a model of a signature, as tables of natural numbers -/
structure MdlOk (sg : List (Str × Nat)) (n : Nat) (ts : List (List Nat)) : Prop where
  n1 : 1 ≤ n
  n6 : n ≤ 6
  len : ts.length = sg.length
  tab : ∀ i (h1 : i < sg.length) (h2 : i < ts.length), Tab n sg[i].2 ts[i]
theorem MdlOk.low {sg : List (Str × Nat)} {n : Nat} {ts : List (List Nat)} (m : MdlOk sg n ts) : ∀ t ∈ ts, ∀ k ∈ t, k < n := by
  intro t ht k hk
  obtain ⟨i, hi, e⟩ := List.mem_iff_getElem.mp ht
  subst e
  have tb := m.tab i (by rw [← m.len]; exact hi) hi
  obtain ⟨j, hj, e⟩ := List.mem_iff_getElem.mp hk
  have h := tb.low j (by rw [← tb.len]; exact hj)
  have g1 := g_eq hj
  rw [List.getElem?_eq_getElem hj, e] at g1
  rw [← Option.some.inj g1] at h
  exact h
def sp_model_wrong (K : PySem.W.Frag) : Sp := spX (fun (p : List (Str × Nat) × Nat × List (List Nat)) vs H => (∃ u v, vs = [u, v] ∧ Sig K H u p.1 ∧ Mdl K H v p.2.1 p.2.2) ∧ SigOk p.1 ∧ MdlOk p.1 p.2.1 p.2.2) (fun _ v _ => v = .non)
theorem c_model_wrong (T : Txt mg) (D : Df K mg "model_wrong" s_model_wrong ["signature", "thing"]) (c_need_signature : Cl P w K mg base 5 "need_signature" (sp_need_signature K)) (c_is_size : Cl P w K mg base 2 "is_size" sp_is_size)
    (c_power : Cl P w K mg base 1 "power" sp_power) (c_first_odd_cell_models : Cl P w K mg base 3 "first_odd_cell_models" (sp_first_odd_cell K)) : Cl P w K mg base 6 "model_wrong" (sp_model_wrong K) := by
  refine cl_of (k := 5) D sc_model_wrong (fun vs H Q E h => ?_) (fun f cdv A outer s H vs Q E hr h => ?_)
  · obtain ⟨p, ⟨⟨u, v, rfl, _⟩, _⟩, _⟩ := h
    rfl
  · obtain ⟨⟨sg, n, ts⟩, ⟨⟨u, v, rfl, hG, hM⟩, sok, mok⟩, q⟩ := h
    refine ⟨_, (pss_cons (ps_expr (pe_cl c_need_signature hr (by first | decide | omega) (by rfl) (pa_cons (pv 0) pa_nil)))
      (pss_cons (ps_if (PW.pt (pw_or (pt_not (pt_val (pe_callB call_isi (by rfl) T.z_isinstance (by decide +kernel) (pa_cons (pv 1) (pa_cons (pe_ty "tuple" (by rfl) T.z_tuple (by decide +kernel)) pa_nil))))) (pw_or1 (pt_cmpR op_ne (pe_callB call_len_seq (by rfl) T.z_len PySem.boot_len (pa_cons (pv 1) pa_nil)) pe_int (nomark _)))))
        (pss_one (ps_ret (pe_tup (pa_cons pe_str pa_nil))))
        pss_nil)
      (pss_cons (ps_asg (pv 1) (pg_tup (by rfl) (pgs_cons (pg_name (i := 2) sc_model_wrong.nd rfl (.inl rfl)) (pgs_cons (pg_name (i := 3) sc_model_wrong.nd rfl (.inl rfl)) pgs_nil))))
      (pss_cons (ps_if (pt_not (pt_val (pe_cl c_is_size hr (by first | decide | omega) (by rfl) (pa_cons (pv 2) pa_nil))))
        (pss_one (ps_ret (pe_tup (pa_cons pe_str pa_nil))))
        pss_nil)
      (pss_cons (ps_if (PW.pt (pw_or (pt_not (pt_val (pe_callB call_isi (by rfl) T.z_isinstance (by decide +kernel) (pa_cons (pv 3) (pa_cons (pe_ty "tuple" (by rfl) T.z_tuple (by decide +kernel)) pa_nil))))) (pw_or1 (pt_cmpR op_ne (pe_callB call_len_seq (by rfl) T.z_len PySem.boot_len (pa_cons (pv 3) pa_nil)) (pe_callB call_len_seq (by rfl) T.z_len PySem.boot_len (pa_cons (pv 0) pa_nil)) (nomark _)))))
        (pss_one (ps_ret (pe_tup (pa_cons pe_str pa_nil))))
        pss_nil)
      (pss_cons (ps_for PassesOwn.never (by rfl) (pi_enumT (by rfl) T.z_enumerate (pa_cons (pv 0) pa_nil)) (pg_tup (by rfl) (pgs_cons (pg_name (i := 4) sc_model_wrong.nd rfl (.inl rfl)) (pgs_cons (pg_name (i := 5) sc_model_wrong.nd rfl (.inl rfl)) pgs_nil)))
        (pss_one (ps_if (PW.pt (pw_or (pt_not (pt_val (pe_callB call_isi (by rfl) T.z_isinstance (by decide +kernel) (pa_cons (pe_ix ix_tup (pv 3) (pv 4) (fun _ _ => rfl)) (pa_cons (pe_ty "tuple" (by rfl) T.z_tuple (by decide +kernel)) pa_nil))))) (pw_or1 (pt_cmpR op_ne (pe_callB call_len_seq (by rfl) T.z_len PySem.boot_len (pa_cons (pe_ix ix_tup (pv 3) (pv 4) (fun _ _ => rfl)) pa_nil)) (pe_cl c_power hr (by first | decide | omega) (by rfl) (pa_cons (pv 2) (pa_cons (pe_ix ix_tup (pv 5) pe_int (fun _ _ => rfl)) pa_nil))) (nomark _)))))
          (pss_one (ps_ret (pe_tup (pa_cons pe_str (pa_cons (pv 4) pa_nil)))))
          pss_nil)))
      (pss_cons (ps_set (i := 6) sc_model_wrong.nd rfl (.inl rfl) (pe_cl c_first_odd_cell_models hr (by first | decide | omega) (by rfl) (pa_cons (pv 2) (pa_cons (pv 3) pa_nil))))
      (pss_one (ps_ret (pe_ifExp (pt_cmpR op_isN (pv 6) pe_non (nomark _)) pe_non (pe_tup (pa_cons pe_str (pa_cons (pe_ix ix_tup (pv 6) pe_int (fun _ _ => rfl)) (pa_cons (pe_ix ix_tup (pv 6) pe_int (fun _ _ => rfl)) pa_nil)))))))))))))), ?_⟩
    obtain ⟨a, us, rfl, hS, hP⟩ := id hG
    obtain ⟨b, tv, rfl, hB, c, tvs, rfl, hC, hT⟩ := id hM
    have n1 := mok.n1
    have n6 := mok.n6
    have lS : us.length = sg.length := paired_len hP
    have lT : tvs.length = ts.length := paired_len hT
    have lM : ts.length = sg.length := mok.len
    refine q_drop (ev_callV (v := .non) sg (ea_cons (ev_var rfl) ea_nil) (fun H1 e1 => ⟨⟨_, rfl, hG.ex e1⟩, sok⟩) (fun _ _ p => p)) fun H1 e1 => ?_
    refine q_when (b := false) (et_is (et_or (et_not (et_val (ev_isi (ev_var rfl) ev_c (.ty _) (fun _ e => tyx_tup (ex_t (e1.trans e) hB)) kit_tt))) (fun _ => et_test (ev_op (ev_lenT (ev_var rfl) (ex_t e1 hB)) ev_c (rv_ne rfl)))) rfl) (fun hb => by cases hb) (fun _ H2 e2 => ?_)
    have e02 := e1.trans e2
    -- size, tables = thing
    refine ⟨.ref b, rfl, b, _, rfl, ex_t e02 hB, rfl, _, _, rfl, _, _, rfl, rfl, ?_⟩
    refine q_when (b := false) (et_is (et_not (et_val (ev_callV (v := .bl true) n (ea_cons (ev_var rfl) ea_nil) (fun _ _ => ⟨rfl, n1, n6⟩) (fun _ _ p => p)))) rfl) (fun hb => by cases hb) (fun _ H3 e3 => ?_)
    have e03 := e02.trans e3
    refine q_when (b := false) (et_is (et_or (et_not (et_val (ev_isi (ev_var rfl) ev_c (.ty _) (fun _ e => tyx_tup (ex_t (e03.trans e) hC)) kit_tt))) (fun _ => et_test (ev_op (ev_lenT (ev_var rfl) (ex_t e03 hC)) (ev_lenT (ev_var rfl) (ex_t e03 hS)) (rv_ne rfl)))) ?_) (fun hb => by cases hb) (fun _ H4 e4 => ?_)
    · show (!true || !decide (V.int (tvs.length : Int) = V.int (us.length : Int))) = false
      rw [lT, lS, lM, decide_eq_true rfl]
      rfl
    have e04 := e03.trans e4
    refine q_enumT (ea_cons (ev_var rfl) ea_nil) (ex_t e04 hS) (fun i σ H' => Ex H H' ∧ ∃ y4 y5, σ = [some (.ref a), some (.ref b), some (vi n), some (.ref c), y4, y5, none]) (fun H5 e5 => ⟨e04.trans e5, none, none, rfl⟩) (fun i σ H' _ ⟨e, _⟩ => ex_t e hS) (fun i x σ H5 H6 hx ⟨e, y4, y5, hσ⟩ e6 => ?_) (fun σ H5 ⟨e5, y4, y5, hσ⟩ => ?_)
    · subst hσ
      have hi : i < sg.length := by rw [← lS]; exact (List.getElem?_eq_some_iff.mp hx).1
      have hi2 : i < ts.length := by rw [lM]; exact hi
      obtain ⟨x', ex', d, hd, dd⟩ := paired_get hP (List.getElem?_eq_getElem hi)
      have : x' = x := Option.some.inj (ex'.symm.trans hx)
      subst this
      subst hd
      obtain ⟨y', ey', r, hr', rr⟩ := paired_get hT (List.getElem?_eq_getElem hi2)
      subst hr'
      have e06 : Ex H H6 := e.trans e6
      have tb := mok.tab i hi hi2
      have p2 : sg[i].2 ≤ 2 := sok.pl _ (List.getElem_mem hi)
      have tk : Ev (tOp (rIxT K) (tVar 3) (tVar 4)) [some (.ref a), some (.ref b), some (vi n), some (.ref c), some (vi i), some (.ref d), none] H6 (.ref r) := ev_op (ev_var rfl) (ev_var rfl) (rv_ixT (ex_t e06 hC) (atI_vi ey'))
      refine s_when (b := false) (et_is (et_or (et_not (et_val (ev_isi tk ev_c (.ty _) (fun _ e => tyx_tup (ex_t (e06.trans e) rr)) kit_tt))) (fun _ => et_test (ev_op (ev_lenT tk (ex_t e06 rr)) (ev_callV (v := vi (n ^ sg[i].2)) (n, sg[i].2) (ea_cons (ev_var rfl) (ea_cons (ev_op (ev_var rfl) ev_c (rv_ixT (ex_t e06 dd) (atI_vi (k := 1) rfl))) ea_nil)) (fun _ _ => ⟨rfl, n6, p2⟩) (fun _ _ p => p)) (rv_ne rfl)))) ?_) (fun hb => by cases hb) (fun _ H7 e7 => ⟨e06.trans e7, _, _, rfl⟩)
      show (!true || !decide (V.int (((ts[i].map vi).length : Nat) : Int) = vi (n ^ sg[i].2))) = false
      rw [List.length_map, tb.len, decide_eq_true rfl]
      rfl
    · subst hσ
      refine q_asg (ev_callV (v := .non) (n, ts) (ea_cons (ev_var rfl) (ea_cons (ev_var rfl) ea_nil)) (fun H6 e6 => ⟨⟨_, rfl, c, tvs, rfl, ex_t (e5.trans e6) hC, paired_imp (fun _ _ z => z.ex (e5.trans e6)) hT⟩, mok.low⟩) (fun _ _ p => p)) fun H6 e6 => ?_
      refine s_ret (ev_if (b := true) ?_ (fun _ => ev_c) (fun hb => by cases hb)) fun H7 e7 => q _ H7 ((e5.trans e6).trans e7) rfl
      exact fun H7 e7 Q q => ⟨_, rfl, rfl, _, rfl, q H7 (Ex.refl H7)⟩
def sp_need_model (K : PySem.W.Frag) : Sp := spX (fun (p : List (Str × Nat) × Nat × List (List Nat)) vs H => (∃ u v, vs = [u, v] ∧ Sig K H u p.1 ∧ Mdl K H v p.2.1 p.2.2) ∧ SigOk p.1 ∧ MdlOk p.1 p.2.1 p.2.2) (fun _ v _ => v = .non)
theorem c_need_model (T : Txt mg) (D : Df K mg "need_model" s_need_model ["signature", "model"]) (c_model_wrong : Cl P w K mg base 6 "model_wrong" (sp_model_wrong K)) : Cl P w K mg base 7 "need_model" (sp_need_model K) := by
  refine cl_of (k := 6) D sc_need_model (fun vs H Q E h => ?_) (fun f cdv A outer s H vs Q E hr h => ?_)
  · obtain ⟨p, ⟨⟨u, v, rfl, _⟩, _⟩, _⟩ := h
    rfl
  · obtain ⟨p, ⟨⟨u, v, rfl, hG, hM⟩, sok, mok⟩, q⟩ := h
    refine ⟨_, (pss_one (ps_if (pt_cmpR op_notN (pe_cl c_model_wrong hr (by first | decide | omega) (by rfl) (pa_cons (pv 0) (pa_cons (pv 1) pa_nil))) pe_non (nomark _))
        (pss_one ps_never)
        pss_nil)), ?_⟩
    exact s_when (b := false) (et_is (et_isN (ev_callV (v := .non) p (ea_cons (ev_var rfl) (ea_cons (ev_var rfl) ea_nil)) (fun H1 e1 => ⟨⟨_, _, rfl, hG.ex e1, hM.ex e1⟩, sok, mok⟩) (fun _ _ p => p))) rfl) (fun hb => by cases hb) (fun _ H1 e1 => q _ H1 e1 rfl)
end
end K73
end
section
namespace K73
open PySem PySem.Spec PyProof.Rows L2 Evl RZ Dw M20
theorem big1200 : Builtin.Int.intTooBig (((Builtin.Int.intBits (10 ^ 60) : Nat) : Int) * 20) = false := by decide +kernel
theorem pow1200 {X : Cx} : OpR X (binaryOp .Pow) (fun x y H Q => x = .int (10 ^ 60) ∧ y = .int 20 ∧ Q (.int ((10 ^ 60) ^ (20 : Int).toNat)) H) := op_powG (b := 10 ^ 60) (e := 20) (by decide) (by decide) big1200
/-! ### the purse -/
/-- a purse at p, its cells at c, t draws done -/
def Pur (H : Hp) (p c : Addr) (t : Nat) : Prop := H p = some (.lst [.ref c, vi t]) ∧ ∃ cs : List Int, cs ≠ [] ∧ cs.length ≤ 63 ∧ H c = some (.lst (cs.map V.int))
/-- all but these two as it was -/
def Off (H H' : Hp) (p c : Addr) : Prop := ∀ b o, b ≠ p → b ≠ c → H b = some o → H' b = some o
theorem Off.refl {H : Hp} {p c : Addr} : Off H H p c := fun _ _ _ _ h => h
theorem Off.trans {H H1 H2 : Hp} {p c : Addr} (a : Off H H1 p c) (b : Off H1 H2 p c) : Off H H2 p c := fun x o h1 h2 h => b x o h1 h2 (a x o h1 h2 h)
theorem Off.of_ex {H H' : Hp} {p c : Addr} (e : Ex H H') : Off H H' p c := fun b o _ _ h => e b o h
theorem Pur.ex {H H' : Hp} {p c : Addr} {t : Nat} (e : Ex H H') (h : Pur H p c t) : Pur H' p c t := ⟨e _ _ h.1, let ⟨cs, h1, h2, h3⟩ := h.2; ⟨cs, h1, h2, e _ _ h3⟩⟩
theorem Pur.ne {H : Hp} {p c : Addr} {t : Nat} (h : Pur H p c t) : p ≠ c := fun e => by
  obtain ⟨h1, cs, h2, _, h3⟩ := h
  rw [e, h3] at h1
  have h4 := HO.lst.inj (Option.some.inj h1)
  cases cs with
  | nil => exact h2 rfl
  | cons x r =>
    have h5 := (List.cons.inj h4).1
    cases h5
/-- a new address is neither -/
theorem Pur.fresh {H : Hp} {p c b : Addr} {t : Nat} (h : Pur H p c t) (n : H b = none) : b ≠ p ∧ b ≠ c := by
  constructor
  · intro e
    rw [e, h.1] at n
    cases n
  · intro e
    obtain ⟨_, cs, _, _, h3⟩ := h
    rw [e, h3] at n
    cases n
theorem Off.et {K : PySem.W.Frag} {H H' : Hp} {p c : Addr} {t : Nat} (o : Off H H' p c) (h : Pur H p c t) : ET K H H' := fun a xs q => by
  have no : ∀ u, H a = some u → (∀ ys, u ≠ .lst ys) → H' a = some u := fun u hu hl => o a u (fun e => by rw [e, h.1] at hu; exact hl _ (Option.some.inj hu).symm) (fun e => by
    obtain ⟨_, cs, _, _, h3⟩ := h
    rw [e, h3] at hu
    exact hl _ (Option.some.inj hu).symm) hu
  rcases q with (q | ⟨ob, q⟩) | q
  · exact .inl (.inl (no _ q fun _ z => by cases z))
  · exact .inl (.inr ⟨ob, no _ q fun _ z => by cases z⟩)
  · exact .inr q
section
variable {P : Program} {w : World} {K : PySem.W.Frag} {mg : Str → Option Value} {base : Heap}
def sp_purse (K : PySem.W.Frag) : Sp := fun vs H Q _ => ∃ (a : Addr) (ns : List Int), vs = [.ref a] ∧ SqL K H a (ns.map V.int) ∧ ns.length ≤ 63 ∧ ∀ p c H', Ex H H' → H p = none → H c = none → Pur H' p c 0 → Q (.ref p) H'
theorem ints_shaped (cs : List Int) : SeqAt.shaped (.list (cs.map PyData.int)) = true := by
  have h1 : ∀ l : List Int, PyData.canLayAll0 (l.map PyData.int) = true := by
    intro l
    induction l with
    | nil => rfl
    | cons x r ih => show (PyData.canLay0 (.int x) && PyData.canLayAll0 (r.map PyData.int)) = true; rw [ih]; rfl
  have h2 : ∀ l : List Int, PyData.depthAll (l.map PyData.int) = 0 := by
    intro l
    induction l with
    | nil => rfl
    | cons x r ih => show max (PyData.depth (.int x)) (PyData.depthAll (r.map PyData.int)) = 0; rw [ih]; rfl
  show (PyData.canLayAll0 (cs.map PyData.int) && decide (PyData.depthAll (cs.map PyData.int) + 1 ≤ 64)) = true
  rw [h1, h2]
  rfl
theorem dp_ints {H : Hp} {a : Addr} {cs : List Int} (h : SqL K H a (cs.map V.int)) : Dp K H (.ref a) (.list (cs.map PyData.int)) := by
  refine .lst h ?_
  have : ∀ l : List Int, DpAll K H (l.map V.int) (l.map PyData.int) := by
    intro l
    induction l with
    | nil => exact .nil
    | cons x r ih => exact .cons (.int x) ih
  exact this cs
theorem c_purse (T : Txt mg) (D : Df K mg "_law_purse" s_purse ["_law_script"]) : Cl P w K mg base 1 "_law_purse" (sp_purse K) := by
  refine cl_of (k := 0) D sc_purse (fun vs H Q E h => ?_) (fun f cdv A outer s H vs Q E hr h => ?_)
  · obtain ⟨a, ns, rfl, _⟩ := h
    rfl
  · obtain ⟨a, ns, rfl, hS, len, q⟩ := h
    refine ⟨_, (pss_cons (ps_set (i := 1) sc_purse.nd rfl (.inl rfl) (pe_slice sl_list (pv 0) po_none (po_some pe_int)))
      (pss_cons (ps_for PassesOwn.never (by rfl) (pi_range1 (by rfl) T.z_range (pa_cons (pe_callB call_len_seq (by rfl) T.z_len PySem.boot_len (pa_cons (pv 1) pa_nil)) pa_nil)) (pg_name (i := 2) sc_purse.nd rfl (.inl rfl))
        (pss_one (ps_if (pt_cmpR op_ge (pe_callB call_abs (by rfl) T.z_abs (by decide +kernel) (pa_cons (pe_ix ix_list (pv 1) (pv 2) (fun _ _ => rfl)) pa_nil)) (pe_op op_pow pe_int pe_int) (nomark _))
          (pss_one (ps_asg (pe_op op_mod (pe_ix ix_list (pv 1) (pv 2) (fun _ _ => rfl)) (pe_op pow1200 (pe_op op_pow pe_int pe_int) pe_int)) (pg_sub (pv 1) (pv 2) set_list)))
          pss_nil)))
      (pss_cons (ps_if (pt_cmpR (op_eqD hr.units) (pv 1) (pe_lst pa_nil) (nomark _))
        (pss_one (ps_set (i := 1) sc_purse.nd rfl (.inl rfl) (pe_lst (pa_cons pe_int pa_nil))))
        pss_nil)
      (pss_one (ps_ret (pe_lst (pa_cons (pv 1) (pa_cons pe_int pa_nil)))))))), ?_⟩
    have cut : cutV (ns.map V.int) none (some 63) = ns.map V.int := by
      unfold cutV
      rw [HT.sIx_none, show HT.sIx (ns.map V.int).length (ns.map V.int).length (some 63) = min 63 (ns.map V.int).length from HT.sIx_nat _ _ 63, Nat.sub_zero, List.drop_zero, List.length_map]
      exact List.take_of_length_le (by rw [List.length_map]; omega)
    have sl : EvL (tSl (rSlL K) (tVar 0) tNoPart (tPart (tC (.int 63)))) [some (.ref a), none, none] H (ns.map V.int) := by
      have := el_sl (σ := [some (.ref a), none, none]) (te := tVar 0) (ev_var rfl) eo_none (eo_some (i := 63) (te := tC (.int 63)) ev_c) hS
      rw [cut] at this
      exact this
    refine q_asgL sl fun c H1 nc e1 hc => ?_
    have l63 : ∀ cs : List Int, cs.length = ns.length → (cs.map V.int).length ≤ 63 := fun cs h => by rw [List.length_map, h]; exact len
    have lenE : EvA (tCons (tCB (rLenS K) (tCons (tVar 1) tNil)) tNil) [some (.ref a), some (.ref c), none] H1 [.int (ns.length : Int)] := by
      have := ev_len (K := K) (σ := [some (.ref a), some (.ref c), none]) (ta := tVar 1) (ev_var rfl) (sq_of hc)
      rw [List.length_map] at this
      exact ea_cons this ea_nil
    refine q_forR1 lenE (by omega) (fun i σ H' => Ex H H' ∧ (∃ cs : List Int, cs.length = ns.length ∧ H' c = some (.lst (cs.map V.int))) ∧ ∃ y, σ = [some (.ref a), some (.ref c), y]) (fun H2 e2 => ⟨e1.trans e2, ⟨ns, rfl, e2 _ _ hc⟩, _, rfl⟩) (fun i σ H2 hi ⟨e2, ⟨cs, lc, hcs⟩, y, hσ⟩ => ?_) (fun σ H2 ⟨e2, ⟨cs, lc, hcs⟩, y, hσ⟩ => ?_)
    · subst hσ
      have hi' : i < cs.length := by rw [lc]; omega
      have it : Ev (tOp (rIxL K) (tVar 1) (tVar 2)) [some (.ref a), some (.ref c), some (vi i)] H2 (.int cs[i]) := ev_op (ev_var rfl) (ev_var rfl) (rv_ixL (sq_of hcs) (atI_vi (by rw [List.getElem?_map, List.getElem?_eq_getElem hi']; rfl)))
      refine s_when (et_test (ev_op (ev_cb (z := .int (if cs[i] < 0 then -cs[i] else cs[i])) (ea_cons it ea_nil) (fun H3 _ Q q3 => ⟨_, rfl, q3 H3 (Ex.refl _)⟩)) (ev_op ev_c ev_c (rv_I ⟨by decide, by decide, by decide⟩)) rv_I0)) (fun _ H3 e3 => ?_) (fun _ H3 e3 => ⟨e2.trans e3, ⟨cs, lc, e3 _ _ hcs⟩, _, rfl⟩)
      refine s_setL (e3 _ _ hcs) (ev_op (it.mono e3) (ev_op (ev_op ev_c ev_c (rv_I ⟨by decide, by decide, by decide⟩)) ev_c (fun H4 _ Q q4 => ⟨rfl, rfl, q4 H4 (Ex.refl _)⟩)) (rv_I (by decide))) (ev_var rfl) (ev_var rfl) (by rw [List.length_map]; exact hi') (fun H4 e4 => ⟨((e2.trans e3).trans e4).mut nc, ⟨cs.set i (cs[i] % (10 ^ 60) ^ (20 : Int).toNat), by rw [List.length_set, lc], ?_⟩, _, rfl⟩)
      rw [upd_same, List.map_set]
    · subst hσ
      have dp := dp_ints (K := K) (sq_of hcs)
      have test : EvT (tTest (tOp (rEqD K) (tVar 1) (tLst tNil))) [some (.ref a), some (.ref c), y] H2 (PyData.eqv (.list (cs.map PyData.int)) (.list [])) := fun H3 e3 Q q3 => ⟨_, rfl, Nat.zero_le _, fun r nr => ⟨_, _, dp_ints (sq_of (by rw [upd_ne (ne_of_none (e3 _ _ hcs) nr)]; exact e3 _ _ hcs)), .lst (sq_of upd_same) .nil, ints_shaped cs, rfl, _, rfl, q3 _ (Ex.new nr)⟩⟩
      refine q_when test (fun hb H3 e3 => ?_) (fun hb H3 e3 => ?_)
      · refine s_asgL (el_lst (ea_cons ev_c ea_nil) (by decide)) fun d H4 nd e4 hd => ?_
        have e04 : Ex H H4 := (e2.trans e3).trans e4
        have nd0 : H d = none := fresh_back (e2.trans e3) nd
        refine s_retL (el_lst (ea_cons (ev_var rfl) (ea_cons ev_c ea_nil)) (by show 2 ≤ 100000; decide)) fun p H5 np e5 hp => q p d H5 (e04.trans e5) (fresh_back e04 np) nd0 ⟨hp, [0], by simp, by decide, e5 _ _ hd⟩
      · have ne : cs ≠ [] := fun z => by
          subst z
          exact absurd hb (by decide)
        have e03 : Ex H H3 := e2.trans e3
        have l63' : cs.length ≤ 63 := by rw [lc]; exact len
        refine s_retL (el_lst (ea_cons (ev_var rfl) (ea_cons ev_c ea_nil)) (by show 2 ≤ 100000; decide)) fun p H5 np e5 hp => q p c H5 (e03.trans e5) (fresh_back e03 np) nc ⟨hp, cs, ne, l63', e5 _ _ (e3 _ _ hcs)⟩
end
end K73
end
section
namespace K73
open PySem PySem.Spec PyProof.Rows L2 Evl RZ Dw M20
section
variable {P : Program} {w : World} {K : PySem.W.Frag} {mg : Str → Option Value} {base : Heap}
/-- a draw: a number below n, one more done -/
def sp_draw : Sp := fun vs H Q _ => ∃ (p c : Addr) (t n : Nat), vs = [.ref p, vi n] ∧ Pur H p c t ∧ t ≤ 100000 ∧ 1 ≤ n ∧ n ≤ 1000 ∧ ∀ k H', k < n → Off H H' p c → Pur H' p c (t + 1) → Q (vi k) H'
theorem vi_mod {x : Int} {n : Nat} (h : 1 ≤ n) : ∃ k, k < n ∧ V.int (x % (n : Int)) = vi k := by
  have h1 : 0 ≤ x % (n : Int) := Int.emod_nonneg _ (by omega)
  have h2 : x % (n : Int) < n := Int.emod_lt_of_pos _ (by omega)
  exact ⟨(x % (n : Int)).toNat, by omega, by show V.int _ = V.int _; rw [Int.toNat_of_nonneg h1]⟩
theorem c_draw (T : Txt mg) (D : Df K mg "_law_draw" s_draw ["_law_purse_here", "_law_out_of"]) : Cl P w K mg base 1 "_law_draw" sp_draw := by
  refine cl_of (k := 0) D sc_draw (fun vs H Q E h => ?_) (fun f cdv A outer s H vs Q E hr h => ?_)
  · obtain ⟨p, c, t, n, rfl, _⟩ := h
    rfl
  · obtain ⟨p, c, t, n, rfl, pu, t1, n1, n2, q⟩ := h
    refine ⟨_, (pss_cons (ps_asg (pv 0) (pg_unl (by rfl) (pgs_cons (pg_name (i := 2) sc_draw.nd rfl (.inl rfl)) (pgs_cons (pg_name (i := 3) sc_draw.nd rfl (.inl rfl)) pgs_nil))))
      (pss_cons (ps_set (i := 4) sc_draw.nd rfl (.inl rfl) (pe_op op_mod (pv 3) (pe_callB call_len_seq (by rfl) T.z_len PySem.boot_len (pa_cons (pv 2) pa_nil))))
      (pss_cons (ps_set (i := 5) sc_draw.nd rfl (.inl rfl) (pe_ix ix_list (pv 2) (pv 4) (fun _ _ => rfl)))
      (pss_cons (ps_asg (pe_op op_add (pv 3) pe_int) (pg_sub (pv 0) pe_int set_list))
      (pss_cons (ps_if (pt_cmpR op_ge (pv 5) (pe_op op_pow pe_int pe_int) (nomark _))
        (pss_cons (ps_asg (pe_op op_fdiv (pv 5) (pv 1)) (pg_sub (pv 2) (pv 4) set_list))
        (pss_one (ps_ret (pe_op op_mod (pv 5) (pv 1)))))
        pss_nil)
      (pss_cons (ps_set (i := 6) sc_draw.nd rfl (.inl rfl) (pe_op op_mod (pe_op op_add (pe_op op_add (pe_op op_mul (pe_op op_mod (pv 5) pe_int) pe_int) (pe_op op_mul (pe_op op_mul (pv 3) (pv 3)) pe_int)) pe_int) pe_int))
      (pss_cons (ps_set (i := 6) sc_draw.nd rfl (.inl rfl) (pe_op op_mod (pe_op op_mul (pv 6) (pv 6)) pe_int))
      (pss_cons (ps_set (i := 6) sc_draw.nd rfl (.inl rfl) (pe_op op_mod (pe_op op_mul (pv 6) (pv 6)) pe_int))
      (pss_one (ps_ret (pe_op op_mod (pv 6) (pv 1)))))))))))), ?_⟩
    have ne := pu.ne
    obtain ⟨hp, cs, cne, c63, hc⟩ := id pu
    -- cells, turn = purse
    refine ⟨.ref p, rfl, p, _, rfl, sq_of hp, rfl, _, _, rfl, _, _, rfl, rfl, ?_⟩
    have cl : 0 < cs.length := List.length_pos_iff.mpr cne
    have lenE : Ev (tCB (rLenS K) (tCons (tVar 2) tNil)) [some (.ref p), some (vi n), some (.ref c), some (vi t), none, none, none] H (.int (cs.length : Int)) := by
      have := ev_len (K := K) (σ := [some (.ref p), some (vi n), some (.ref c), some (vi t), none, none, none]) (ta := tVar 2) (ev_var rfl) (sq_of hc)
      rw [List.length_map] at this
      exact this
    refine q_asg (v := vi (t % cs.length)) (ev_is (ev_op (ev_var rfl) lenE (rv_I (by show (0 : Int) < (cs.length : Int); omega))) (by show V.int ((t : Int) % (cs.length : Int)) = V.int ((t % cs.length : Nat) : Int); rw [Int.natCast_emod])) fun H1 e1 => ?_
    have ai : t % cs.length < cs.length := Nat.mod_lt _ cl
    refine q_asg (v := .int cs[t % cs.length]) (ev_op (ev_var rfl) (ev_var rfl) (rv_ixL (ex_l e1 (sq_of hc)) (atI_vi (by rw [List.getElem?_map, List.getElem?_eq_getElem ai]; rfl)))) fun H2 e2 => ?_
    have e02 := e1.trans e2
    -- purse[1] = turn + 1
    refine q_setL (j := 1) (e02 _ _ hp) (ev_op (ev_var rfl) ev_c rv_I0) (ev_var rfl) ev_c (by show 1 < 2; decide) fun H3 e3 => ?_
    have e03 := e02.trans e3
    have hp4 : (upd H3 p (.lst [.ref c, vi (t + 1)])) p = some (.lst [.ref c, vi (t + 1)]) := upd_same
    have hc4 : (upd H3 p (.lst [.ref c, vi (t + 1)])) c = some (.lst (cs.map V.int)) := by rw [upd_ne (Ne.symm ne)]; exact e03 _ _ hc
    have off4 : Off H (upd H3 p (.lst [.ref c, vi (t + 1)])) p c := fun b o b1 b2 hb => by rw [upd_ne b1]; exact e03 _ _ hb
    have st : (upd H3 p (.lst (List.set [V.ref c, vi t] 1 (V.int ((t : Int) + 1))))) = upd H3 p (.lst [.ref c, vi (t + 1)]) := by
      show upd H3 p (.lst [.ref c, .int ((t : Int) + 1)]) = upd H3 p (.lst [.ref c, .int ((t + 1 : Nat) : Int)])
      rw [Int.natCast_add]
      rfl
    rw [st]
    generalize upd H3 p (.lst [.ref c, vi (t + 1)]) = H4 at hp4 hc4 off4
    have pu4 : Pur H4 p c (t + 1) := ⟨hp4, cs, cne, c63, hc4⟩
    refine q_when (et_test (ev_op (ev_var rfl) (ev_op ev_c ev_c (rv_I ⟨by decide, by decide, by decide⟩)) rv_I0)) (fun _ H5 e5 => ?_) (fun _ H5 e5 => ?_)
    · refine q_setL (e5 _ _ hc4) (ev_op (ev_var rfl) (ev_var rfl) (rv_I ⟨by omega, by omega⟩)) (ev_var rfl) (ev_var rfl) (by rw [List.length_map]; exact ai) fun H6 e6 => ?_
      obtain ⟨k, hk, ek⟩ := vi_mod (x := cs[t % cs.length]) n1
      refine s_ret (v := vi k) (ev_is (ev_op (ev_var rfl) (ev_var rfl) (rv_I (by show (0 : Int) < (n : Int); omega))) ek) fun H7 e7 => q k H7 hk (fun b o b1 b2 hb => e7 _ _ (by rw [upd_ne b2]; exact e6 _ _ (e5 _ _ (off4 b o b1 b2 hb)))) ⟨e7 _ _ (by rw [upd_ne ne]; exact e6 _ _ (e5 _ _ hp4)), cs.set (t % cs.length) (cs[t % cs.length] / (n : Int)), ?_, ?_, ?_⟩
      · intro z
        have := congrArg List.length z
        rw [List.length_set] at this
        have z0 : cs.length = 0 := this
        omega
      · rw [List.length_set]; exact c63
      · refine e7 _ _ ?_
        rw [upd_same, List.map_set]
    · refine q_asg (ev_op (ev_op (ev_op (ev_op (ev_op (ev_var rfl) ev_c (rv_I (by decide))) ev_c (rv_I (.inr ⟨by decide, by decide⟩))) (ev_op (ev_op (ev_var rfl) (ev_var rfl) (rv_I (.inl ⟨by omega, by omega⟩))) ev_c (rv_I (.inr ⟨by decide, by decide⟩))) rv_I0) ev_c rv_I0) ev_c (rv_I (by decide))) fun H6 e6 => ?_
      have small : ∀ x m : Int, 0 < m → m < 2 ^ 40 → CMul (x % m) (x % m) := fun x m h1 h2 => .inl ⟨by have := Int.emod_nonneg x (show m ≠ 0 by omega); omega, by have := Int.emod_lt_of_pos x h1; omega⟩
      refine q_asg (ev_op (ev_op (ev_var rfl) (ev_var rfl) (rv_I (small _ _ (by decide) (by decide)))) ev_c (rv_I (by decide))) fun H7 e7 => ?_
      refine q_asg (ev_op (ev_op (ev_var rfl) (ev_var rfl) (rv_I (small _ _ (by decide) (by decide)))) ev_c (rv_I (by decide))) fun H8 e8 => ?_
      · have e49 := ((e5.trans e6).trans e7).trans e8
        have fin : ∀ x : Int, tRet (tOp (rI (fun _ j => 0 < j) fun i j => .int (i % j)) (tVar 6) (tVar 1)) { nx := fun _ H' => Q .non H', rt := Q } [some (.ref p), some (vi n), some (.ref c), some (vi t), some (vi (t % cs.length)), some (.int cs[t % cs.length]), some (.int x)] H8 := fun x => by
          obtain ⟨k, hk, ek⟩ := vi_mod (x := x) n1
          exact s_ret (v := vi k) (ev_is (ev_op (ev_var rfl) (ev_var rfl) (rv_I (by show (0 : Int) < (n : Int); omega))) ek) fun Ha ea => q k Ha hk (fun b o b1 b2 hb => (e49.trans ea) _ _ (off4 b o b1 b2 hb)) (pu4.ex (e49.trans ea))
        exact fin _
/-- _law_draw(purse, e), e worth n -/
theorem do_draw {σ : L2.St} {H : Hp} {ta tb : TE} {p c : Addr} {t n : Nat} {E : XK} {Q : VK} (hp : Ev ta σ H (.ref p)) (hn : Ev tb σ H (vi n)) (pu : Pur H p c t) (t1 : t ≤ 100000) (n1 : 1 ≤ n) (n2 : n ≤ 1000) (q : ∀ k H', k < n → Off H H' p c → Pur H' p c (t + 1) → Q (vi k) H') :
    tCall sp_draw [] E (tCons ta (tCons tb tNil)) σ H Q :=
  ea_cons hp (ea_cons hn ea_nil) H (Ex.refl H) _ fun H1 e1 => ⟨p, c, t, n, rfl, pu.ex e1, t1, n1, n2, fun k H' hk o p' => q k H' hk ((Off.of_ex e1).trans o) p'⟩
end
end K73
end
section
namespace K73
open PySem PySem.Spec PyProof.Rows L2 Evl RZ Dw M20
theorem Off.sql {K : PySem.W.Frag} {H H' : Hp} {p c l : Addr} {xs : List V} (o : Off H H' p c) (h1 : l ≠ p) (h2 : l ≠ c) (h : SqL K H l xs) : SqL K H' l xs := by
  rcases h with (h | ⟨ob, h⟩) | h
  · exact .inl (.inl (o _ _ h1 h2 h))
  · exact .inl (.inr ⟨ob, o _ _ h1 h2 h⟩)
  · exact .inr h
theorem Off.upd {H H' : Hp} {p c l : Addr} {o : HO} (f : Off H H' p c) (n : H l = none) : Off H (upd H' l o) p c := fun b u b1 b2 h => by
  rw [upd_ne (ne_of_none h n)]
  exact f b u b1 b2 h
theorem Off.back {H H' : Hp} {p c l : Addr} (f : Off H H' p c) (h1 : l ≠ p) (h2 : l ≠ c) (n : H' l = none) : H l = none := by
  cases e : H l with
  | none => rfl
  | some o =>
    rw [f l o h1 h2 e] at n
    cases n
theorem Pur.upd {H : Hp} {p c l : Addr} {t : Nat} {o : HO} (h : Pur H p c t) (h1 : l ≠ p) (h2 : l ≠ c) : Pur (upd H l o) p c t := ⟨by rw [upd_ne (Ne.symm h1)]; exact h.1, let ⟨cs, a, b, d⟩ := h.2; ⟨cs, a, b, by rw [upd_ne (Ne.symm h2)]; exact d⟩⟩
section
variable {P : Program} {w : World} {K : PySem.W.Frag} {mg : Str → Option Value} {base : Heap}
section
variable {σ : L2.St} {H : Hp} {D : Ends} {tu tz : TS}
end
/-! ### a list mixed -/

end
/-- a comprehension whose element may do anything, by what holds between its turns -/
theorem do_lcIt {J : It} {n : Nat} {G : Hp → Prop} {Y : Nat → Hp → V → Hp → Prop} {wi : TI} {g : TG} {te : TE} {σ : L2.St} {H : Hp} {vs : List Nat} {Q : VK} (w : Walk J n G Y) (hw0 : ∀ R : It → Hp → Prop, (∀ H1, Ex H H1 → R J H1) → wi σ H R) (Pv : Addr → Nat → Hp → Prop)
    (h0 : ∀ D H1, Ex H H1 → H1 D = none → Pv D 0 (upd H1 D (.lst []))) (hG : ∀ D i H', i ≤ n → Pv D i H' → G H')
    (hs : ∀ D i x H' H'', i < n → Pv D i H' → Y i H' x H'' → g x (wipe σ vs) H'' fun σ2 H2 => wipe σ2 vs = wipe σ vs ∧ if true = true then te σ2 H2 fun y H4 => ∃ acc, H4 D = some (.lst acc) ∧ acc.length < sizeLine ∧ Pv D (i + 1) (upd H4 D (.lst (acc ++ [y]))) else Pv D (i + 1) H2)
    (hd : ∀ D H', Pv D n H' → Q (.ref D) H') : tLc wi g tYes te vs σ H Q :=
  hw0 _ fun H1 e1 Dl nD => lc_it w (Pv Dl) (h0 Dl H1 e1 nD) (hG Dl) (fun i x H2 H3 hi p y => hs Dl i x H2 H3 hi p y) (fun H2 p => hd Dl H2 p)
theorem do_name {i : Nat} {v : V} {σ : L2.St} {H : Hp} {Q : L2.St → Hp → Prop} (h : Q (σ.set i (some v)) H) : gName i v σ H Q := h
theorem do_set {i : Nat} {te : TE} {tz : TS} {D : Ends} {σ : L2.St} {H : Hp} (h : te σ H fun x H1 => tz D (σ.set i (some x)) H1) : tSeq (tAsg te (gName i)) tz D σ H := h
end K73
end
section
namespace K73
open PySem PySem.Spec PyProof.Rows L2 Evl RZ Dw M20 M25
section
variable {P : Program} {w : World} {K : PySem.W.Frag} {mg : Str → Option Value} {base : Heap}
/-! ### rows of numbers -/
/-- a list of rows -/
def RowsL (K : PySem.W.Frag) (H : Hp) (v : V) (rs : List (List Nat)) : Prop := ∃ a vs, v = .ref a ∧ H a = some (.lst vs) ∧ Paired (Nats K H) vs rs
theorem RowsL.ex {H H' : Hp} {v : V} {rs : List (List Nat)} (e : Ex H H') (h : RowsL K H v rs) : RowsL K H' v rs := let ⟨a, vs, q, s, p⟩ := h; ⟨a, vs, q, e _ _ s, paired_imp (fun _ _ z => z.ex e) p⟩
theorem pairs_rows (L : List (List Nat)) (m : Nat) : ((List.range L.length).flatMap fun i => (List.range m).map fun k => (i, k)).map (fun p => L.getD p.1 [] ++ [p.2]) = L.flatMap fun r => (List.range m).map fun k => r ++ [k] := by
  rw [List.map_flatMap]
  have e : (List.range L.length).map (fun i => L.getD i []) = L := by
    apply List.ext_getElem?
    intro i
    by_cases h : i < L.length
    · rw [List.getElem?_map, List.getElem?_range h]
      show some (L.getD i []) = _
      rw [List.getD_eq_getElem?_getD, List.getElem?_eq_getElem h]
      rfl
    · rw [List.getElem?_eq_none_iff.mpr (by simp; omega), List.getElem?_eq_none_iff.mpr (by omega)]
  conv => rhs; rw [← e, List.flatMap_map]
  congr 1
  funext i
  rw [List.map_map]
  rfl
theorem rows_length (n : Nat) : ∀ p, (rows n p).length = n ^ p
  | 0 => rfl
  | p + 1 => by
    show ((rows n p).flatMap _).length = _
    rw [List.length_flatMap, Nat.pow_succ]
    have : (rows n p).map (fun r => ((List.range n).map fun k => r ++ [k]).length) = List.replicate (rows n p).length n := by
      rw [List.eq_replicate_iff]
      refine ⟨by rw [List.length_map], fun b hb => ?_⟩
      obtain ⟨r, _, rfl⟩ := List.mem_map.mp hb
      simp
    rw [this, List.sum_replicate_nat, rows_length n p]
theorem stb_nats {β : Type} (f : β → List Nat) : StbB (fun v b H => Nats K H v (f b)) := fun _ _ _ _ e h => h.et e.et
def sp_rows_below (K : PySem.W.Frag) : Sp := spF (fun (p : Nat × Nat) vs _ => vs = [vi p.1, vi p.2] ∧ p.1 ≤ 6 ∧ p.2 ≤ 2) (fun p v H => RowsL K H v (rows p.1 p.2))
theorem c_rows_below (T : Txt mg) (D : Df K mg "rows_below" s_rows_below ["size", "many"]) : Cl P w K mg base 1 "rows_below" (sp_rows_below K) := by
  refine cl_of (k := 0) D sc_rows_below (fun vs H Q E h => ?_) (fun f cdv A outer s H vs Q E hr h => ?_)
  · obtain ⟨p, ⟨rfl, _⟩, _⟩ := h
    rfl
  · obtain ⟨⟨n, m⟩, ⟨rfl, hn, hm⟩, q⟩ := h
    refine ⟨_, (pss_cons (ps_set (i := 2) sc_rows_below.nd rfl (.inl rfl) (pe_lst (pa_cons (pe_tup pa_nil) pa_nil)))
      (pss_cons (ps_for PassesOwn.never (by rfl) (pi_range1 (by rfl) T.z_range (pa_cons (pv 1) pa_nil)) (pg_name (i := 3) sc_rows_below.nd rfl (.inl rfl))
        (pss_one (ps_setLc2 (i := 2) (own := [("row", 4), ("number", 5)]) (g := (gName 4)) (g1 := (gName 5)) (vs1 := [5]) (by rfl) sc_rows_below.nd rfl rfl (sw_true rfl rfl rfl (by decide +kernel)) (pi_list (pv 2)) (blkOk_by (own := [("row", 4), ("number", 5)]) (N := ["size", "many", "rows", "step", "row", "number"]) (sc := (defScope s_rows_below)) (by decide +kernel)) (by decide) (fun _ _ _ _ _ => (pg_name (i := 4) sc_rows_below.nd rfl (.inl rfl))) (fun _ _ _ _ _ => pts_nil) (fun _ _ _ _ _ => (pi_range1 (by rfl) T.z_range (pa_cons (pv 0) pa_nil))) (fun _ _ _ _ _ => (pg_name (i := 5) sc_rows_below.nd rfl (.inl rfl))) (fun _ _ _ _ _ => pts_nil) (fun _ _ _ _ _ => (pe_op (op_catAK K) (pv 4) (pe_tup (pa_cons (pv 5) pa_nil)))))))
      (pss_one (ps_ret (pv 2))))), ?_⟩
    replace hn : n ≤ 6 := hn
    replace hm : m ≤ 2 := hm
    refine do_set (do_lst (do_cons (do_tup (do_nil ⟨Nat.zero_le _, fun r nr => do_nil ⟨by show 1 ≤ sizeLine; decide, fun f0 nf0 => ?_⟩⟩))))
    have e1 : Ex H (upd (upd H r (.tup [])) f0 (.lst [.ref r])) := (Ex.new nr).trans (Ex.new nf0)
    have nfH : H f0 = none := fresh_back (Ex.new nr) nf0
    have hf0 : (upd (upd H r (.tup [])) f0 (.lst [.ref r])) f0 = some (.lst [.ref r]) := upd_same
    have hr0 : (upd (upd H r (.tup [])) f0 (.lst [.ref r])) r = some (.tup []) := Ex.new nf0 _ _ upd_same
    generalize upd (upd H r (.tup [])) f0 (.lst [.ref r]) = H1 at *
    refine q_forR1 (n := (m : Int)) (ea_cons (ev_var rfl) ea_nil) ⟨by omega, by omega⟩ (fun i σ H' => Ex H H' ∧ ∃ (v : V) (y3 : Option V), RowsL K H' v (rows n i) ∧ (∀ d, v = .ref d → H d = none) ∧ σ = [some (vi n), some (vi m), some v, y3, none, none])
      (fun H2 e2 => ⟨e1.trans e2, .ref f0, none, ⟨f0, [.ref r], rfl, e2 _ _ hf0, .cons ⟨r, rfl, st_of (e2 _ _ hr0)⟩ .nil⟩, (fun d z => V.ref.inj z ▸ nfH), rfl⟩) (fun i σ H2 hi ⟨e2, v, y3, hv, hnv, hσ⟩ => ?_) (fun σ H2 ⟨e2, v, y3, hv, hnv, hσ⟩ => ?_)
    · subst hσ
      obtain ⟨a, us, rfl, ha, pus⟩ := hv
      have li : us.length = n ^ i := by rw [paired_len pus, rows_length]
      have lu : us.length ≤ 10000 := by
        rw [li]
        have i1 : i ≤ 1 := by omega
        have : n ^ i ≤ n ^ 1 ∨ i = 0 := by
          rcases Nat.eq_zero_or_pos i with z | z
          · exact .inr z
          · have : i = 1 := by omega
            rw [this]; exact .inl (Nat.le_refl _)
        rcases this with z | z
        · rw [Nat.pow_one] at z; omega
        · rw [z, Nat.pow_zero]; omega
      refine s_asgLP (elp_lc2 (K := K) (ev_var rfl) (sq_of ha) (fun x H3 e3 => ea_cons (ev_var rfl) ea_nil) lu (by omega) (fun v p H' => Nats K H' v ((rows n i).getD p.1 [] ++ [p.2])) (stb_nats (K := K) _) (fun _ => rfl) (fun _ _ => rfl) (fun j x k H3 e3 hx hk => ?_)) fun p ws H3 np e3 hp hw => ⟨e2.trans e3, .ref p, _, ⟨p, ws, rfl, hp, ?_⟩, (fun d z => V.ref.inj z ▸ fresh_back e2 np), rfl⟩
      · obtain ⟨row, hrow, xa, rfl, hxa⟩ := paired_at pus hx
        have er : (rows n i).getD j [] = row := by rw [List.getD_eq_getElem?_getD, hrow]; rfl
        have lr : row.length = i := (rows_of (List.mem_iff_getElem?.mpr ⟨j, hrow⟩)).1
        rw [er]
        refine tv_nats (tv_is (tv_cat (tv_ev (ev_var rfl) (ex_t e3 hxa)) (tv_tup (ea_cons (ev_var rfl) ea_nil) (by show 1 ≤ 100000; decide)) ?_) ?_)
        · rw [List.length_map, lr]
          show i + 1 ≤ 100000
          omega
        · rw [List.map_append]
          rfl
      · rw [paired_len pus] at hw
        have := paired_map (S := Nats K H3) (f := fun p : Nat × Nat => (rows n i).getD p.1 [] ++ [p.2]) (fun _ _ z => z) hw
        rw [pairs_rows] at this
        exact this
    · subst hσ
      rw [Int.toNat_natCast] at hv
      exact s_ret (ev_var rfl) fun H3 e3 => q _ H3 (e2.trans e3) (hv.ex e3) hnv
end
end K73
end
section
namespace K73
open PySem PySem.Spec PyProof.Rows L2 Evl RZ Dw M20 M25 CL
section
variable {σ : L2.St} {H : Hp} {ta tb te : TE}
theorem ev_mulN {a b : Nat} (ha : Ev ta σ H (vi a)) (hb : Ev tb σ H (vi b)) (la : a ≤ 1000) (lb : b ≤ 1000) : Ev (tOp (rI CMul fun i j => .int (i * j)) ta tb) σ H (vi (a * b)) := ev_is (ev_op ha hb (rv_I (.inl ⟨by omega, by omega⟩))) (by show V.int ((a : Int) * (b : Int)) = V.int ((a * b : Nat) : Int); rw [Int.natCast_mul])
theorem ev_addN {a b : Nat} (ha : Ev ta σ H (vi a)) (hb : Ev tb σ H (vi b)) : Ev (tOp (rI0 fun i j => .int (i + j)) ta tb) σ H (vi (a + b)) := ev_is (ev_op ha hb rv_I0) (by show V.int ((a : Int) + (b : Int)) = V.int ((a + b : Nat) : Int); rw [Int.natCast_add])
end
section
variable {P : Program} {w : World} {K : PySem.W.Frag} {mg : Str → Option Value} {base : Heap}
def sp_place_of_row (K : PySem.W.Frag) : Sp := spX (fun (p : Nat × List Nat) vs H => (∃ l, vs = [vi p.1, .ref l] ∧ H l = some (.lst (p.2.map vi))) ∧ p.1 ≤ 6 ∧ p.2.length ≤ 2 ∧ ∀ k ∈ p.2, k < p.1) (fun p v _ => v = vi (plc p.1 p.2))
theorem c_place_of_row (T : Txt mg) (D : Df K mg "place_of_row" s_place_of_row ["size", "row"]) : Cl P w K mg base 1 "place_of_row" (sp_place_of_row K) := by
  refine cl_of (k := 0) D sc_place_of_row (fun vs H Q E h => ?_) (fun f cdv A outer s H vs Q E hr h => ?_)
  · obtain ⟨p, ⟨⟨l, rfl, _⟩, _⟩, _⟩ := h
    rfl
  · obtain ⟨⟨n, ns⟩, ⟨⟨l, rfl, hl⟩, n6, l2, low⟩, q⟩ := h
    refine ⟨_, (pss_cons (ps_set (i := 2) sc_place_of_row.nd rfl (.inl rfl) pe_int)
      (pss_cons (ps_for PassesOwn.never (by rfl) (pi_list (pv 1)) (pg_name (i := 3) sc_place_of_row.nd rfl (.inl rfl))
        (pss_one (ps_set (i := 2) sc_place_of_row.nd rfl (.inl rfl) (pe_op op_add (pe_op op_mul (pv 2) (pv 0)) (pv 3)))))
      (pss_one (ps_ret (pv 2))))), ?_⟩
    replace hl : H l = some (.lst (ns.map vi)) := hl
    replace n6 : n ≤ 6 := n6
    replace l2 : ns.length ≤ 2 := l2
    replace low : ∀ k ∈ ns, k < n := low
    refine q_asg (v := vi 0) ev_c fun H1 e1 => ?_
    refine q_forL (K := K) (ev_var rfl) (sq_of (e1 _ _ hl)) (fun i σ H' => Ex H H' ∧ ∃ y : Option V, σ = [some (vi n), some (.ref l), some (vi (plc n (ns.take i))), y]) (fun H2 e2 => ⟨e1.trans e2, none, rfl⟩) (fun i σ H' _ ⟨e, _⟩ => sq_of (e _ _ hl)) (fun i x σ H2 hx hP => ?_) (fun σ H2 hP => ?_)
    · obtain ⟨e2, y, hσ⟩ := hP
      subst hσ
      rw [List.getElem?_map] at hx
      cases hk : ns[i]? with
      | none =>
        rw [hk] at hx
        cases hx
      | some k =>
        rw [hk] at hx
        cases Option.some.inj hx
        have small : plc n (ns.take i) ≤ 1000 := by
          have a := plc_low (n := n) (ns := ns.take i) (fun k h => low k (List.mem_of_mem_take h)) (by rw [List.length_take]; omega)
          have b : n ^ (ns.take i).length ≤ 6 ^ (ns.take i).length := Nat.pow_le_pow_left n6 _
          have c : 6 ^ (ns.take i).length ≤ 6 ^ 2 := Nat.pow_le_pow_right (by decide) (by rw [List.length_take]; omega)
          omega
        refine s_asg (v := vi (plc n (ns.take (i + 1)))) (ev_is (ev_addN (ev_mulN (ev_var rfl) (ev_var rfl) small (by omega)) (ev_var rfl)) (by rw [plc_take hk])) fun H3 e3 => ?_
        exact ⟨e2.trans e3, _, rfl⟩
    · obtain ⟨e2, y, hσ⟩ := hP
      subst hσ
      rw [List.length_map, List.take_length]
      exact s_ret (ev_var rfl) fun H3 e3 => q _ H3 (e2.trans e3) rfl
def sp_is_row (K : PySem.W.Frag) : Sp := spX (fun (p : Nat × List Nat) vs H => (∃ v, vs = [v, vi p.2.length, vi p.1] ∧ Nats K H v p.2) ∧ (∀ k ∈ p.2, k < p.1) ∧ p.2.length ≤ 1000) (fun _ v _ => v = .bl true)
theorem c_is_row (T : Txt mg) (D : Df K mg "is_row" s_is_row ["thing", "many", "size"]) (c_is_below : Cl P w K mg base 2 "is_below" sp_is_below) : Cl P w K mg base 3 "is_row" (sp_is_row K) := by
  refine cl_of (k := 2) D sc_is_row (fun vs H Q E h => ?_) (fun f cdv A outer s H vs Q E hr h => ?_)
  · obtain ⟨p, ⟨⟨v, rfl, _⟩, _⟩, _⟩ := h
    rfl
  · obtain ⟨⟨n, ns⟩, ⟨⟨v, rfl, a, rfl, ha⟩, low, few⟩, q⟩ := h
    refine ⟨_, (pss_one (ps_ret (pe_and (pe_callB call_isi (by rfl) T.z_isinstance (by decide +kernel) (pa_cons (pv 0) (pa_cons (pe_ty "tuple" (by rfl) T.z_tuple (by decide +kernel)) pa_nil))) (pe_and (pe_cmpR op_eq (pe_callB call_len_seq (by rfl) T.z_len PySem.boot_len (pa_cons (pv 0) pa_nil)) (pv 1) (nomark _)) (pe_one (pe_callB (cr_all rfl) (by rfl) T.z_all (by decide +kernel) (pa_cons (pe_lc (own := [("number", 3)]) (g := (gName 3)) (by rfl) sc_is_row.nd (pi_tup (pv 0)) (blkOk_by (own := [("number", 3)]) (N := ["thing", "many", "size", "number"]) (sc := (defScope s_is_row)) (by decide +kernel)) (fun _ _ _ _ _ => (pg_name (i := 3) sc_is_row.nd rfl (.inl rfl))) (fun _ _ _ _ _ => pts_nil) (fun _ _ _ _ _ => (pe_cl c_is_below hr (by first | decide | omega) (by rfl) (pa_cons (pv 3) (pa_cons (pv 2) pa_nil))))) pa_nil))))))), ?_⟩
    replace ha : SqT K H a (ns.map vi) := ha
    replace low : ∀ k ∈ ns, k < n := low
    replace few : ns.length ≤ 1000 := few
    refine s_ret (v := .bl true) (ev_is (ev_andV (a := true) (ev_isi (ev_var rfl) ev_c (.ty _) (fun _ e => tyx_tup (ex_t e ha)) kit_tt) (fun _ => ev_andV (ev_op (ev_lenT (ev_var rfl) ha) (ev_var rfl) (rv_eq rfl)) (fun _ => ev_all (bs := List.replicate ns.length true) ?_))) ?_) fun H1 e1 => q _ H1 e1 rfl
    · have z := el_lcT (K := K) (tl := tVar 0) (te := tCall sp_is_below [] E0 (tCons (tVar 3) (tCons (tVar 2) tNil))) (σ := [some (.ref a), some (vi ns.length), some (vi n), none]) (j := 3) (vs := [3]) (ev_var rfl) ha (fun _ => V.bl true) (by rw [List.length_map]; omega) (fun _ => rfl) (fun i x H1 e1 hx => by
        rw [List.getElem?_map] at hx
        cases hk : ns[i]? with
        | none =>
          rw [hk] at hx
          cases hx
        | some k =>
          rw [hk] at hx
          cases Option.some.inj hx
          have lk := low k (List.mem_iff_getElem?.mpr ⟨i, hk⟩)
          exact ev_callV (v := .bl true) (((k : Nat) : Int), ((n : Nat) : Int)) (ea_cons (ev_var rfl) (ea_cons (ev_var rfl) ea_nil)) (fun _ _ => ⟨rfl, by show (0 : Int) ≤ (k : Int); omega, by show (k : Int) < (n : Int); omega⟩) (fun _ _ p => p))
      have e : (List.range (ns.map vi).length).map (fun _ => V.bl true) = (List.replicate ns.length true).map V.bl := by
        rw [List.length_map, List.map_replicate, List.map_const', List.length_range]
      rw [e] at z
      exact z
    · rw [List.length_map]
      simp
end
end K73
end
section
namespace K73
open PySem PySem.Spec PyProof.Rows L2 Evl RZ Dw M20 M25 CL
section
variable {P : Program} {w : World} {K : PySem.W.Frag} {mg : Str → Option Value} {base : Heap}
/-! ### rising lists -/
/-! ### arguments among numbers -/
theorem all_map {α : Type} (f : α → Bool) : ∀ l : List α, (l.map f).all id = l.all f
  | [] => rfl
  | x :: l => by rw [List.map_cons, List.all_cons, List.all_cons, all_map f l]; rfl
/-! ### the cells with their worths -/
def CellV (K : PySem.W.Frag) (H : Hp) (v : V) (c : Str × List Nat × Nat) : Prop := ∃ b x, v = .ref b ∧ SqT K H b [.str c.1, x, vi c.2.2] ∧ Nats K H x c.2.1
theorem CellV.et {H H' : Hp} {v : V} {c : Str × List Nat × Nat} (e : ET K H H') (h : CellV K H v c) : CellV K H' v c := let ⟨b, x, q, s, n⟩ := h; ⟨b, x, q, e _ _ s, n.et e⟩
/-- a list of cells -/
def CellsL (K : PySem.W.Frag) (H : Hp) (v : V) (cs : List (Str × List Nat × Nat)) : Prop := ∃ a vs, v = .ref a ∧ H a = some (.lst vs) ∧ Paired (CellV K H) vs cs
theorem CellsL.ex {H H' : Hp} {v : V} {cs : List (Str × List Nat × Nat)} (e : Ex H H') (h : CellsL K H v cs) : CellsL K H' v cs := let ⟨a, vs, q, s, p⟩ := h; ⟨a, vs, q, e _ _ s, paired_imp (fun _ _ z => CellV.et (Dw.Ex.et e) z) p⟩
abbrev MArg := List (Str × Nat) × Nat × List (List Nat)
def blk (n : Nat) (x : (Str × Nat) × List Nat) : List (Str × List Nat × Nat) := ((rows n x.1.2).zip x.2).map fun y => (x.1.1, y.1, y.2)
theorem blk_len {n : Nat} {x : (Str × Nat) × List Nat} (h : Tab n x.1.2 x.2) : (blk n x).length = n ^ x.1.2 := by
  unfold blk
  rw [List.length_map, List.length_zip, rows_len', h.len, Nat.min_self]
theorem pow_36 {n p : Nat} (n6 : n ≤ 6) (p2 : p ≤ 2) : n ^ p ≤ 36 := by
  have h1 : n ^ p ≤ 6 ^ p := Nat.pow_le_pow_left n6 p
  have h2 : 6 ^ p ≤ 6 ^ 2 := Nat.pow_le_pow_right (by decide) p2
  omega
theorem cws_few {n : Nat} {sg : List (Str × Nat)} {ts : List (List Nat)} (so : SigOk sg) (m : MdlOk sg n ts) (i : Nat) : (((sg.zip ts).take i).flatMap (blk n)).length ≤ 36 * i ∧ (((sg.zip ts).take i).flatMap (blk n)).length ≤ 144 := by
  have one : ∀ l : List ((Str × Nat) × List Nat), (∀ x ∈ l, x ∈ sg.zip ts) → (l.flatMap (blk n)).length ≤ 36 * l.length := fun l => by
    induction l with
    | nil => exact fun _ => Nat.zero_le _
    | cons x l ih =>
      intro h
      rw [List.flatMap_cons, List.length_append, List.length_cons]
      have a := ih fun y hy => h y (List.mem_cons_of_mem _ hy)
      obtain ⟨j, hj⟩ := List.mem_iff_getElem?.mp (h x (List.mem_cons_self ..))
      rw [List.getElem?_zip_eq_some] at hj
      obtain ⟨h1, e1⟩ := List.getElem?_eq_some_iff.mp hj.1
      obtain ⟨h2, e2⟩ := List.getElem?_eq_some_iff.mp hj.2
      have tb := m.tab j h1 h2
      rw [e1, e2] at tb
      have b := blk_len tb
      have c := pow_36 m.n6 (so.pl _ (List.mem_iff_getElem?.mpr ⟨j, hj.1⟩))
      omega
  have a := one ((sg.zip ts).take i) fun x hx => List.mem_of_mem_take hx
  have l4 := so.l4
  have lt : ((sg.zip ts).take i).length ≤ i := by rw [List.length_take]; omega
  have lz : ((sg.zip ts).take i).length ≤ 4 := by rw [List.length_take, List.length_zip]; omega
  constructor
  · exact Nat.le_trans a (Nat.mul_le_mul_left 36 lt)
  · exact Nat.le_trans a (Nat.mul_le_mul_left 36 lz)
def sp_cells (K : PySem.W.Frag) : Sp := spF (fun (p : MArg) vs H => (∃ u v, vs = [u, v] ∧ Sig K H u p.1 ∧ Mdl K H v p.2.1 p.2.2) ∧ SigOk p.1 ∧ MdlOk p.1 p.2.1 p.2.2) (fun p v H => CellsL K H v (cws p.2.1 p.1 p.2.2))
theorem c_cells_with_worths (T : Txt mg) (D : Df K mg "cells_with_worths" s_cells_with_worths ["signature", "model"]) (c_rows_below : Cl P w K mg base 1 "rows_below" (sp_rows_below K)) : Cl P w K mg base 2 "cells_with_worths" (sp_cells K) := by
  refine cl_of (k := 1) D sc_cells_with_worths (fun vs H Q E h => ?_) (fun f cdv A outer s H vs Q E hr h => ?_)
  · obtain ⟨p, ⟨⟨u, v, rfl, _⟩, _⟩, _⟩ := h
    rfl
  · obtain ⟨⟨sg, n, ts⟩, ⟨⟨u, v, rfl, hG, hM⟩, sok, mok⟩, q⟩ := h
    refine ⟨_, (pss_cons (ps_set (i := 2) sc_cells_with_worths.nd rfl (.inl rfl) (pe_lst pa_nil))
      (pss_cons (ps_for PassesOwn.never (by rfl) (pi_zipA (by rfl) T.z_zip (pa_cons (pv 0) (pa_cons (pe_ix ix_tup (pv 1) pe_int (fun _ _ => rfl)) pa_nil))) (pg_tup (by rfl) (pgs_cons (pg_tup (by rfl) (pgs_cons (pg_name (i := 3) sc_cells_with_worths.nd rfl (.inl rfl)) (pgs_cons (pg_name (i := 4) sc_cells_with_worths.nd rfl (.inl rfl)) pgs_nil))) (pgs_cons (pg_name (i := 5) sc_cells_with_worths.nd rfl (.inl rfl)) pgs_nil)))
        (pss_one (ps_for PassesOwn.never (by rfl) (pi_zipM (by rfl) T.z_zip (pa_cons (pe_cl c_rows_below hr (by first | decide | omega) (by rfl) (pa_cons (pe_ix ix_tup (pv 1) pe_int (fun _ _ => rfl)) (pa_cons (pv 4) pa_nil))) (pa_cons (pv 5) pa_nil))) (pg_tup (by rfl) (pgs_cons (pg_name (i := 6) sc_cells_with_worths.nd rfl (.inl rfl)) (pgs_cons (pg_name (i := 7) sc_cells_with_worths.nd rfl (.inl rfl)) pgs_nil)))
          (pss_one (ps_expr (pe_bm PySem.F.plainAttrs_list PySem.F.slot_list_append PySem.F.type_list_append mt_append (pv 2) (pa_cons (pe_tup (pa_cons (pv 3) (pa_cons (pv 6) (pa_cons (pv 7) pa_nil)))) pa_nil)))))))
      (pss_one (ps_ret (pv 2))))), ?_⟩
    replace sok : SigOk sg := sok
    replace mok : MdlOk sg n ts := mok
    have n6 := mok.n6
    obtain ⟨a, us, rfl, hS, hP⟩ := id hG
    obtain ⟨z, tv, rfl, hZ, hT⟩ := id hM
    obtain ⟨b, tvs, rfl, hB, hR⟩ := id hT
    replace hZ : SqT K H z [vi n, .ref b] := hZ
    replace hP : Paired (Deed K H) us sg := hP
    replace hR : Paired (Nats K H) tvs ts := hR
    have lS : us.length = sg.length := paired_len hP
    have lT : tvs.length = ts.length := paired_len hR
    have lM : ts.length = sg.length := mok.len
    refine q_asgL (el_lst ea_nil (Nat.zero_le _)) fun m H1 nm e1 hm => ?_
    refine q_zipT (ea_cons (ev_var rfl) (ea_cons (ev_op (ev_var rfl) ev_c (rv_ixT (K := K) (ex_t e1 hZ) (atI_vi (k := 1) rfl))) ea_nil)) (ex_t e1 hS) (ex_t e1 hB) (by rw [lS, lT, lM]) (fun i σ H' => Ex H H' ∧ (∃ ws, H' m = some (.lst ws) ∧ Paired (CellV K H') ws (((sg.zip ts).take i).flatMap (blk n))) ∧ ∃ y3 y4 y5 y6 y7, σ = [some (.ref a), some (.ref z), some (.ref m), y3, y4, y5, y6, y7])
      (fun H2 e2 => ⟨e1.trans e2, ⟨[], e2 _ _ hm, .nil⟩, none, none, none, none, none, rfl⟩) (fun i σ H' _ ⟨e, _⟩ => ⟨ex_t e hS, ex_t e hB⟩) (fun i d tv p σ H2 hd ht ⟨e2, ⟨ws, hws, pws⟩, y3, y4, y5, y6, y7, hσ⟩ np => ?_) (fun σ H2 ⟨e2, ⟨ws, hws, pws⟩, y3, y4, y5, y6, y7, hσ⟩ => ?_)
    · subst hσ
      have hi : i < sg.length := by rw [← lS]; exact (List.getElem?_eq_some_iff.mp hd).1
      have hi2 : i < ts.length := by rw [lM]; exact hi
      obtain ⟨d', ed', c, hc, dc⟩ := paired_get hP (List.getElem?_eq_getElem hi)
      have : d' = d := Option.some.inj (ed'.symm.trans hd)
      subst this
      subst hc
      obtain ⟨t', et', r, hr', nt⟩ := paired_get hR (List.getElem?_eq_getElem hi2)
      have : t' = tv := Option.some.inj (et'.symm.trans ht)
      subst this
      subst hr'
      have e3 : Ex H2 (upd H2 p (.tup [.ref c, .ref r])) := Ex.new np
      have e03 : Ex H (upd H2 p (.tup [.ref c, .ref r])) := e2.trans e3
      have p2 : sg[i].2 ≤ 2 := sok.pl _ (List.getElem_mem hi)
      have tab := mok.tab i hi hi2
      refine ⟨p, _, rfl, st_of upd_same, rfl, _, _, rfl, ⟨c, _, rfl, ex_t e03 dc, rfl, _, _, rfl, _, _, rfl, rfl, ?_⟩⟩
      refine ⟨_, _, rfl, rfl, ?_⟩
      have hzip : (sg.zip ts)[i]? = some (sg[i], ts[i]) := List.getElem?_zip_eq_some.mpr ⟨List.getElem?_eq_getElem hi, List.getElem?_eq_getElem hi2⟩
      have fw := (cws_few sok mok i).2
      have lws : ws.length ≤ 144 := by rw [paired_len pws]; exact fw
      refine s_zipM (do_cons (do_evP (ep_callF (n, sg[i].2) (ea_cons (ev_op (ev_var rfl) ev_c (rv_ixT (K := K) (ex_t e03 hZ) (atI_vi (k := 0) rfl))) (ea_cons (ev_var rfl) ea_nil)) (fun _ _ => ⟨rfl, n6, p2⟩)) fun rv H4 e4 ⟨⟨ra, rvs, hra, hrl, prs⟩, nra⟩ => do_cons (do_ev (ev_var rfl) fun H5 e5 => do_nil ?_)))
      subst hra
      replace prs : Paired (Nats K H4) rvs (rows n sg[i].2) := prs
      have e35 := e4.trans e5
      have lr : rvs.length = n ^ sg[i].2 := by rw [paired_len prs, rows_len']
      have big := pow_36 n6 p2
      refine ⟨ra, r, rvs, _, rfl, sq_of (e5 _ _ hrl), ex_t (e03.trans e35) nt, ?_⟩
      refine loops_zipM (by rw [List.length_map, lr, tab.len]) (fun j σ H' => Ex H H' ∧ H' ra = some (.lst rvs) ∧ Paired (Nats K H') rvs (rows n sg[i].2) ∧ (∃ ws2, H' m = some (.lst ws2) ∧ Paired (CellV K H') ws2 (((sg.zip ts).take i).flatMap (blk n) ++ (blk n (sg[i], ts[i])).take j)) ∧ ∃ y6 y7, σ = [some (.ref a), some (.ref z), some (.ref m), some (.str sg[i].1), some (vi sg[i].2), some (.ref r), y6, y7])
        ⟨e03.trans e35, e5 _ _ hrl, paired_imp (fun _ _ z => z.ex e5) prs, ⟨ws, (e3.trans e35) _ _ hws, by
          rw [List.take_zero, List.append_nil]
          exact paired_imp (fun _ _ z => CellV.et (Dw.Ex.et (e3.trans e35)) z) pws⟩, _, _, rfl⟩ (fun j σ' H' _ ⟨e, hr, _⟩ => ⟨sq_of hr, ex_t e nt⟩) (fun j x y T σ' H6 hx hy ⟨e6, hr6, pr6, ⟨ws2, hw2, pw2⟩, y6, y7, hσ⟩ nT => ?_) (fun σ' H6 ⟨e6, hr6, pr6, ⟨ws2, hw2, pw2⟩, y6, y7, hσ⟩ => ?_)
      · subst hσ
        have hj : j < n ^ sg[i].2 := by rw [← lr]; exact (List.getElem?_eq_some_iff.mp hx).1
        obtain ⟨row, hrow, xa, rfl, hxa⟩ := paired_at pr6 hx
        rw [List.getElem?_map] at hy
        cases hw : ts[i][j]? with
        | none => rw [hw] at hy; cases hy
        | some wv =>
        rw [hw] at hy
        cases Option.some.inj hy
        have e7 : Ex H6 (upd H6 T (.tup [.ref xa, vi wv])) := Ex.new nT
        have hblk : (blk n (sg[i], ts[i]))[j]? = some (sg[i].1, row, wv) := by
          unfold blk
          rw [List.getElem?_map, show ((rows n sg[i].2).zip ts[i])[j]? = some (row, wv) from List.getElem?_zip_eq_some.mpr ⟨hrow, hw⟩]
          rfl
        refine ⟨T, _, rfl, st_of upd_same, rfl, _, _, rfl, _, _, rfl, rfl, ?_⟩
        refine s_appP (e7 _ _ hw2) (ev_var rfl) (tv_tup (K := K) (ea_cons (ev_var rfl) (ea_cons (ev_var rfl) (ea_cons (ev_var rfl) ea_nil))) (by show 3 ≤ 100000; decide)) ?_ (fun v H8 e8 hv => ?_)
        · rw [paired_len pw2, List.length_append, List.length_take]
          omega
        · obtain ⟨va, rfl, hva⟩ := hv
          have e78 := e7.trans e8
          have hm8 : H8 m = some (.lst ws2) := e78 _ _ hw2
          have et : ET K H8 (upd H8 m (.lst (ws2 ++ [.ref va]))) := ET.refl.upd hm8
          have mra : ra ≠ m := fun zz => by
            have := nra _ rfl
            rw [zz, e3 _ _ hws] at this
            cases this
          refine ⟨(e6.trans e78).mut nm, by rw [upd_ne mra]; exact e78 _ _ hr6, paired_imp (fun _ _ z => (z.ex e78).et et) pr6, ⟨ws2 ++ [.ref va], upd_same, ?_⟩, _, _, rfl⟩
          rw [List.take_add_one, hblk]
          show Paired _ _ (_ ++ (_ ++ [(sg[i].1, row, wv)]))
          rw [← List.append_assoc]
          exact paired_snoc' (R := CellV K (upd H8 m (.lst (ws2 ++ [.ref va])))) (x := .ref va) (y := (sg[i].1, row, wv)) ⟨va, .ref xa, rfl, et _ _ hva, xa, rfl, et _ _ (ex_t e78 hxa)⟩ (paired_imp (fun _ _ z => CellV.et (ET.trans (Dw.Ex.et e78) et) z) pw2)
      · subst hσ
        refine ⟨e6, ⟨ws2, hw2, ?_⟩, _, _, _, _, _, rfl⟩
        rw [List.take_add_one, hzip, List.flatMap_append]
        have full : (blk n (sg[i], ts[i])).take rvs.length = blk n (sg[i], ts[i]) := List.take_of_length_le (by rw [blk_len tab, lr]; exact Nat.le_refl _)
        rw [full] at pw2
        show Paired _ _ (_ ++ (Option.toList (some (sg[i], ts[i]))).flatMap (blk n))
        rw [show (Option.toList (some (sg[i], ts[i]))).flatMap (blk n) = blk n (sg[i], ts[i]) from by simp [Option.toList]]
        exact pw2
    · subst hσ
      have full : (sg.zip ts).take us.length = sg.zip ts := List.take_of_length_le (by rw [List.length_zip]; omega)
      rw [full] at pws
      exact s_ret (ev_var rfl) fun H3 e3 => q _ H3 (e2.trans e3) ⟨m, ws, rfl, e3 _ _ hws, paired_imp (fun _ _ z => CellV.et (Dw.Ex.et e3) z) pws⟩ fun d z => V.ref.inj z ▸ nm
end
end K73
end
section
namespace K73
open PySem PySem.Spec PyProof.Rows L2 Evl RZ Dw M20 M25 CL
section
variable {P : Program} {w : World} {K : PySem.W.Frag} {mg : Str → Option Value} {base : Heap}
/-! ### closed lists -/
/-- a model and its signature as they are handed in -/
def MA (K : PySem.W.Frag) (H : Hp) (u v : V) (p : MArg) : Prop := Sig K H u p.1 ∧ Mdl K H v p.2.1 p.2.2
theorem MA.ex {H H' : Hp} {u v : V} {p : MArg} (e : Ex H H') (h : MA K H u v p) : MA K H' u v p := ⟨h.1.ex e, h.2.ex e⟩
theorem MA.et {H H' : Hp} {u v : V} {p : MArg} (e : ET K H H') (h : MA K H u v p) : MA K H' u v p := ⟨h.1.et e, h.2.et e⟩
def MOk (p : MArg) : Prop := SigOk p.1 ∧ MdlOk p.1 p.2.1 p.2.2
def cwm (p : MArg) : List (Str × List Nat × Nat) := cws p.2.1 p.1 p.2.2
theorem MOk.cells {p : MArg} (h : MOk p) : ∀ c ∈ cwm p, c.2.1.length ≤ 2 ∧ (∀ a ∈ c.2.1, a < p.2.1) ∧ c.2.2 < p.2.1 := fun c hc => by
  obtain ⟨i, d, t, j, r, h1, h2, h3, h4, h5, h6⟩ := cws_mem.mp hc
  have rr := rows_of (List.mem_iff_getElem?.mpr ⟨j, h3⟩)
  have p2 := h.1.pl d (List.mem_iff_getElem?.mpr ⟨i, h1⟩)
  have tt := h.2.low t (List.mem_iff_getElem?.mpr ⟨i, h2⟩)
  rw [h6]
  exact ⟨by rw [rr.1]; exact p2, rr.2, tt _ (List.mem_iff_getElem?.mpr ⟨j, h4⟩)⟩
theorem MOk.few {p : MArg} (h : MOk p) : (cwm p).length ≤ 144 := by
  have := (cws_few h.1 h.2 (p.1.zip p.2.2).length).2
  rw [List.take_length] at this
  exact this
end
end K73
end
section
namespace K73
open PySem PySem.Spec PyProof.Rows L2 Evl RZ Dw M20 M25 CL
section
variable {P : Program} {w : World} {K : PySem.W.Frag} {mg : Str → Option Value} {base : Heap}
/-! ### building -/
abbrev Steps := List (Nat × Option (Str × List Nat))
def StepV (K : PySem.W.Frag) (H : Hp) (v : V) (s : Nat × Option (Str × List Nat)) : Prop := ∃ b x, v = .ref b ∧ SqT K H b [vi s.1, x] ∧ ((s.2 = none ∧ x = .non) ∨ ∃ nm r p y, s.2 = some (nm, r) ∧ x = .ref p ∧ SqT K H p [.str nm, y] ∧ Nats K H y r)
theorem StepV.et {H H' : Hp} {v : V} {s : Nat × Option (Str × List Nat)} (e : ET K H H') (h : StepV K H v s) : StepV K H' v s := let ⟨b, x, q, s, c⟩ := h; ⟨b, x, q, e _ _ s, c.imp id fun ⟨nm, r, p, y, a, b, c, d⟩ => ⟨nm, r, p, y, a, b, e _ _ c, d.et e⟩⟩
def StepsL (K : PySem.W.Frag) (H : Hp) (a : Addr) (st : Steps) : Prop := ∃ vs, H a = some (.lst vs) ∧ Paired (StepV K H) vs st
theorem StepsL.ex {H H' : Hp} {a : Addr} {st : Steps} (e : Ex H H') (h : StepsL K H a st) : StepsL K H' a st := let ⟨vs, s, p⟩ := h; ⟨vs, e _ _ s, paired_imp (fun _ _ z => StepV.et (Dw.Ex.et e) z) p⟩
end
end K73
end
section
namespace K73
open PySem PySem.Spec PyProof.Rows L2 Evl RZ Dw M20 M25 CL
section
variable {P : Program} {w : World} {K : PySem.W.Frag} {mg : Str → Option Value} {base : Heap}
/-! ### made by some numbers -/
/-! ### parts -/
end
end K73
end
section
namespace K73
open PySem PySem.Spec PyProof.Rows L2 Evl RZ Dw M20 M25 CL
section
variable {P : Program} {w : World} {K : PySem.W.Frag} {mg : Str → Option Value} {base : Heap}
end
end K73
end
section
namespace K73
open PySem PySem.Spec PyProof.Rows L2 Evl RZ Dw M20 M25 CL
theorem Off.seq {K : PySem.W.Frag} {H H' : Hp} {p c l : Addr} {t : Nat} {xs : List V} (o : Off H H' p c) (pu : Pur H p c t) (h1 : l ≠ p) (h2 : l ≠ c) (h : SqL K H l xs ∨ SqT K H l xs) : SqL K H' l xs ∨ SqT K H' l xs := h.imp (o.sql h1 h2) (o.et pu l xs)
section
variable {P : Program} {w : World} {K : PySem.W.Frag} {mg : Str → Option Value} {base : Heap}
/-! ### pick -/
def sp_pick (K : PySem.W.Frag) : Sp := fun vs H Q _ => ∃ (p c : Addr) (t : Nat), Pur H p c t ∧ t ≤ 90000 ∧
  ((∃ z : Str, vs = [.ref p, .str z] ∧ 1 ≤ z.length ∧ z.length ≤ 1000 ∧ ∀ (k d : Nat) H', z.cps[k]? = some d → Off H H' p c → Pur H' p c (t + 1) → Q (.str ⟨#[d]⟩) H') ∨
   (∃ (l : Addr) (xs : List V), vs = [.ref p, .ref l] ∧ (SqL K H l xs ∨ SqT K H l xs) ∧ l ≠ p ∧ l ≠ c ∧ 1 ≤ xs.length ∧ xs.length ≤ 1000 ∧ ∀ (k : Nat) x H', xs[k]? = some x → Off H H' p c → Pur H' p c (t + 1) → Q x H'))
theorem c_pick (T : Txt mg) (D : Df K mg "_law_pick" s_pick ["_law_purse_here", "_law_some"]) (c_draw : Cl P w K mg base 1 "_law_draw" sp_draw) : Cl P w K mg base 2 "_law_pick" (sp_pick K) := by
  refine cl_of (k := 1) D sc_pick (fun vs H Q E h => ?_) (fun f cdv A outer s H vs Q E hr h => ?_)
  · obtain ⟨p, c, t, _, _, ⟨z, rfl, _⟩ | ⟨l, xs, rfl, _⟩⟩ := h <;> rfl
  · obtain ⟨p, c, t, pu, t1, h⟩ := h
    refine ⟨_, (pss_one (ps_ret (pe_ix (ix_or (ix_or ix_tup ix_list) ix_str) (pv 1) (pe_cl c_draw hr (by first | decide | omega) (by rfl) (pa_cons (pv 0) (pa_cons (pe_callB (call_or call_len_seq call_len_str) (by rfl) T.z_len PySem.boot_len (pa_cons (pv 1) pa_nil)) pa_nil))) (fun _ _ => rfl)))), ?_⟩
    rcases h with ⟨z, rfl, z1, z2, q⟩ | ⟨l, xs, rfl, hx, lp, lc, x1, x2, q⟩
    · refine do_ret (do_op (do_ev (ev_var rfl) fun H1 e1 => do_draw (n := z.length) (ev_var rfl) (fun H2 e2 Q2 q2 => ev_var rfl H2 (Ex.refl _) _ fun H3 e3 => .inr ⟨z, rfl, sz_of (by omega), q2 H3 e3⟩) (pu.ex e1) (by omega) z1 z2 fun k H2 hk o2 pu2 => ?_))
      have hz : z.cps[k]? = some z.cps[k] := Array.getElem?_eq_getElem hk
      exact .inr ⟨z, (k : Int), z.cps[k], rfl, rfl, sz_of (by omega), atI_nat (by rw [Array.getElem?_toList]; exact hz), q k _ H2 hz ((Off.of_ex e1).trans o2) pu2⟩
    · refine do_ret (do_op (do_ev (ev_var rfl) fun H1 e1 => do_draw (n := xs.length) (ev_var rfl) (fun H2 e2 Q2 q2 => ev_var rfl H2 (Ex.refl _) _ fun H3 e3 => .inl ⟨l, xs, rfl, hx.imp (ex_l ((e1.trans e2).trans e3)) (ex_t ((e1.trans e2).trans e3)), q2 H3 e3⟩) (pu.ex e1) (by omega) x1 x2 fun k H2 hk o2 pu2 => ?_))
      have hk' : xs[k]? = some xs[k] := List.getElem?_eq_getElem hk
      have o02 := (Off.of_ex e1).trans o2
      have got := q k _ H2 hk' o02 pu2
      rcases o02.seq pu lp lc hx with a | a
      · exact .inl (.inr ⟨l, xs, (k : Int), xs[k], rfl, rfl, a, atI_nat hk', got⟩)
      · exact .inl (.inl ⟨l, xs, (k : Int), xs[k], rfl, rfl, a, atI_nat hk', got⟩)
end
section
variable {K : PySem.W.Frag} {σ : L2.St} {H H' : Hp} {R : V → Hp → Prop} {n m t : Nat} {p c : Addr} {ta : TA} {te : TE}
/-! a new list of things of one kind; a pick out of it -/
def EvAs (R : V → Hp → Prop) (n : Nat) (ta : TA) (σ : L2.St) (H : Hp) : Prop := ∀ H1, Ex H H1 → ∀ Q : List V → Hp → Prop, (∀ vs H2, Ex H1 H2 → vs.length = n → (∀ x ∈ vs, R x H2) → Q vs H2) → ta σ H1 Q
theorem eas_nil : EvAs R 0 tNil σ H := fun H1 _ Q q => q [] H1 (Ex.refl _) rfl (fun x hx => by cases hx)
theorem eas_cons (st : ∀ v H H', Ex H H' → R v H → R v H') (h : EvP te σ H R) (hr : EvAs R n ta σ H) : EvAs R (n + 1) (tCons te ta) σ H := fun H1 e Q q => do_cons (h H1 e _ fun v H2 e2 hv => hr H2 (e.trans e2) _ fun vs H3 e3 ln hvs => q _ H3 (e2.trans e3) (by rw [List.length_cons, ln]) (fun x hx => by
  rcases List.mem_cons.mp hx with z | z
  · rw [z]
    exact st _ _ _ e3 hv
  · exact hvs x z))
def LsR (R : V → Hp → Prop) (p c : Addr) (n : Nat) (v : V) (H : Hp) : Prop := ∃ (l : Addr) (xs : List V), v = .ref l ∧ H l = some (.lst xs) ∧ l ≠ p ∧ l ≠ c ∧ xs.length = n ∧ ∀ x ∈ xs, R x H
theorem LsR.ex (st : ∀ v H H', Ex H H' → R v H → R v H') (e : Ex H H') (h : LsR R p c n v H) : LsR R p c n v H' := let ⟨l, xs, q, hx, a, b, ln, all⟩ := h; ⟨l, xs, q, e _ _ hx, a, b, ln, fun x hx => st _ _ _ e (all x hx)⟩
theorem ep_lstR (st : ∀ v H H', Ex H H' → R v H → R v H') (h : EvAs R n ta σ H) (l : n ≤ 1000) (pu : Pur H p c m) : EvP (tLst ta) σ H (LsR R p c n) := fun H1 e Q q => do_lst (h H1 e _ fun vs H2 e2 ln hv => ⟨sz_of (by omega), fun a na => by
  obtain ⟨ap, ac⟩ := (pu.ex (e.trans e2)).fresh na
  exact q _ _ (e2.trans (Ex.new na)) ⟨a, vs, rfl, upd_same, ap, ac, ln, fun x hx => st _ _ _ (Ex.new na) (hv x hx)⟩⟩)
/-- the one list behind the other -/
theorem ep_catR {t1 t2 : TE} {n1 n2 : Nat} (st : ∀ v H H', Ex H H' → R v H → R v H') (h1 : EvP t1 σ H (LsR R p c n1)) (h2 : EvP t2 σ H (LsR R p c n2)) (l : n1 + n2 ≤ 1000) (pu : Pur H p c m) : EvP (tOp rCat t1 t2) σ H (LsR R p c (n1 + n2)) := fun H1 e Q q => do_op (h1 H1 e _ fun v H2 e2 hv => h2 H2 (e.trans e2) _ fun u H3 e3 hu => by
  obtain ⟨l1, xs, rfl, hx, _, _, ln, all⟩ := LsR.ex st e3 hv
  obtain ⟨l2, ys, rfl, hy, _, _, ln2, all2⟩ := hu
  refine ⟨l1, l2, xs, ys, rfl, rfl, hx, hy, sz_of (by omega), fun r nr => ?_⟩
  obtain ⟨ap, ac⟩ := (pu.ex ((e.trans e2).trans e3)).fresh nr
  refine q _ _ ((e2.trans e3).trans (Ex.new nr)) ⟨r, xs ++ ys, rfl, upd_same, ap, ac, by rw [List.length_append, ln, ln2], fun x hx => ?_⟩
  rcases List.mem_append.mp hx with z | z
  · exact st _ _ _ (Ex.new nr) (all x z)
  · exact st _ _ _ (Ex.new nr) (all2 x z))
/-- a pick out of a list -/
theorem do_pickR {tp tl : TE} {Q : VK} (hp : Ev tp σ H (.ref p)) (pu : Pur H p c t) (l9 : t ≤ 90000) (hl : EvP tl σ H (LsR R p c n)) (n1 : 1 ≤ n) (n2 : n ≤ 1000) (so : ∀ v H2 H', Pur H2 p c t → Off H2 H' p c → R v H2 → R v H')
    (q : ∀ v H', Off H H' p c → Pur H' p c (t + 1) → R v H' → Q v H') : tCall (sp_pick K) [] E0 (tCons tp (tCons tl tNil)) σ H Q :=
  do_cons (hp H (Ex.refl _) _ fun H1 e1 => do_cons (hl H1 e1 _ fun v H2 e2 hv => do_nil (by
    obtain ⟨l, xs, rfl, hx, lp, lc, ln, all⟩ := hv
    have pu2 := pu.ex (e1.trans e2)
    exact ⟨p, c, t, pu2, l9, .inr ⟨l, xs, rfl, .inl (sq_of hx), lp, lc, by omega, by omega, fun k x H3 hk o3 pu3 => q x H3 ((Off.of_ex (e1.trans e2)).trans o3) pu3 (so _ _ _ pu2 o3 (all x (List.mem_of_getElem? hk)))⟩⟩)))
/-- the name's worth set where something is so -/
theorem q_mayset {i : Nat} {C : V → Prop} {v0 : V} {b : Bool} {tt : TT} {tz : TS} {D : Ends} (h : EvT tt σ H b) (hv : C v0) (h0 : σ.set i (some v0) = σ) (he : b = true → ∀ H1, Ex H H1 → EvP te σ H1 (fun v _ => C v)) (k : ∀ v H1, Ex H H1 → C v → tz D (σ.set i (some v)) H1) : tSeq (tIfS tt (tAsg te (gName i)) tNext) tz D σ H :=
  q_when h (fun hb H1 e1 => he hb H1 e1 H1 (Ex.refl _) _ fun v H2 e2 c => k v H2 (e1.trans e2) c) fun _ H1 e1 => by
    have := k v0 H1 e1 hv
    rw [h0] at this
    exact this
end
end K73
end
section
namespace K73
open PySem PySem.Spec PyProof.Rows L2 Evl RZ Dw M20 M25 CL
/-! ### a signature picked -/
def SgV (K : PySem.W.Frag) (v : V) (H : Hp) : Prop := ∃ sg, Sig K H v sg ∧ SigOk sg
theorem SgV.et {K : PySem.W.Frag} {v : V} {H H' : Hp} (e : ET K H H') (h : SgV K v H) : SgV K v H' := let ⟨sg, a, b⟩ := h; ⟨sg, a.et e, b⟩
theorem st_sg {K : PySem.W.Frag} : ∀ v H H', Ex H H' → SgV K v H → SgV K v H' := fun _ _ _ e h => h.et (Dw.Ex.et e)
def sigOkB (sg : List (Str × Nat)) : Bool := decide (1 ≤ sg.length) && decide (sg.length ≤ 4) && sg.all (fun p => decide (1 ≤ p.1.length) && decide (p.1.length ≤ 4) && p.1.cps.toList.all (fun c => decide (c ∈ letters.cps.toList)) && decide (p.2 ≤ 2)) && decide ((sg.map (·.1)).Nodup)
theorem sigOk_of {sg : List (Str × Nat)} (h : sigOkB sg = true) : SigOk sg := by
  unfold sigOkB at h
  simp only [Bool.and_eq_true, decide_eq_true_eq, List.all_eq_true] at h
  obtain ⟨⟨⟨a, b⟩, c⟩, d⟩ := h
  exact ⟨a, b, fun p hp => ⟨(c p hp).1.1.1, (c p hp).1.1.2, (c p hp).1.2⟩, fun p hp => (c p hp).2, d⟩
def EvDs (K : PySem.W.Frag) (sg : List (Str × Nat)) (ta : TA) (σ : L2.St) (H : Hp) : Prop := ∀ H1, Ex H H1 → ∀ Q : List V → Hp → Prop, (∀ vs H2, Ex H1 H2 → Paired (Deed K H2) vs sg → Q vs H2) → ta σ H1 Q
section
variable {K : PySem.W.Frag} {σ : L2.St} {H : Hp} {ta : TA}
theorem eds_nil : EvDs K [] tNil σ H := fun H1 _ Q q => q [] H1 (Ex.refl _) .nil
theorem eds_cons {z : Str} {k : Nat} {sg : List (Str × Nat)} (h : EvDs K sg ta σ H) : EvDs K ((z, k) :: sg) (tCons (tTup (tCons (tC (.str z)) (tCons (tC (.int (k : Int))) tNil))) ta) σ H := fun H1 e Q q =>
  do_cons (tv_tup (K := K) (xs := [.str z, vi k]) (ea_cons ev_c (ea_cons ev_c ea_nil)) (by show 2 ≤ 100000; decide) H1 e _ fun v H2 e2 ⟨b, hv, hb⟩ => h H2 (e.trans e2) _ fun vs H3 e3 hvs => q _ H3 (e2.trans e3) (.cons ⟨b, hv, ex_t e3 hb⟩ hvs))
theorem ep_sgT {sg : List (Str × Nat)} (h : EvDs K sg ta σ H) (l : sg.length ≤ 100000) (ok : sigOkB sg = true) : EvP (tTup ta) σ H (SgV K) := fun H1 e Q q =>
  do_tup (h H1 e _ fun vs H2 e2 hvs => ⟨by rw [paired_len hvs]; exact sz_of l, fun p np => q _ _ (e2.trans (Ex.new np)) ⟨sg, ⟨p, vs, rfl, st_of upd_same, paired_imp (fun _ _ z => Deed.et (Dw.Ex.et (Ex.new np)) z) hvs⟩, sigOk_of ok⟩⟩)
end
section
variable {P : Program} {w : World} {K : PySem.W.Frag} {mg : Str → Option Value} {base : Heap}
def sp_signature (K : PySem.W.Frag) : Sp := fun vs H Q _ => ∃ (p c : Addr) (t : Nat), vs = [.ref p] ∧ Pur H p c t ∧ t ≤ 80000 ∧ ∀ v sg H', Off H H' p c → Pur H' p c (t + 1) → Sig K H' v sg → SigOk sg → Q v H'
/-! ### ways -/
def sp_ways (K : PySem.W.Frag) : Sp := spF (fun (p : Nat × Nat) vs _ => vs = [vi p.2, vi p.1] ∧ p.1 ≤ 6 ∧ p.2 ≤ 4) (fun p v H => RowsL K H v (rows p.1 p.2))
theorem c_ways (T : Txt mg) (D : Df K mg "_law_ways" s_ways ["_law_many", "_law_size"]) : Cl P w K mg base 1 "_law_ways" (sp_ways K) := by
  refine cl_of (k := 0) D sc_ways (fun vs H Q E h => ?_) (fun f cdv A outer s H vs Q E hr h => ?_)
  · obtain ⟨p, ⟨rfl, _⟩, _⟩ := h
    rfl
  · obtain ⟨⟨n, m⟩, ⟨rfl, hn, hm⟩, q⟩ := h
    refine ⟨_, (pss_cons (ps_set (i := 2) sc_ways.nd rfl (.inl rfl) (pe_lst (pa_cons (pe_tup pa_nil) pa_nil)))
      (pss_cons (ps_for PassesOwn.never (by rfl) (pi_range1 (by rfl) T.z_range (pa_cons (pv 0) pa_nil)) (pg_name (i := 3) sc_ways.nd rfl (.inl rfl))
        (pss_cons (ps_set (i := 4) sc_ways.nd rfl (.inl rfl) (pe_lst pa_nil))
        (pss_cons (ps_for PassesOwn.never (by rfl) (pi_list (pv 2)) (pg_name (i := 5) sc_ways.nd rfl (.inr rfl))
          (pss_one (ps_set (i := 4) sc_ways.nd rfl (.inl rfl) (pe_op op_cat (pv 4) (pe_lc (own := [("_law_number", 6)]) (g := (gName 6)) (by rfl) sc_ways.nd (pi_range1 (by rfl) T.z_range (pa_cons (pv 1) pa_nil)) (blkOk_by (own := [("_law_number", 6)]) (N := ["_law_many", "_law_size", "_law_found", "_law_k", "_law_longer", "_law_way_here", "_law_number"]) (sc := (defScope s_ways)) (by decide +kernel)) (fun _ _ _ _ _ => (pg_name (i := 6) sc_ways.nd rfl (.inl rfl))) (fun _ _ _ _ _ => pts_nil) (fun _ _ _ _ _ => (pe_op (op_catAK K) (pv 5) (pe_tup (pa_cons (pv 6) pa_nil)))))))))
        (pss_one (ps_set (i := 2) sc_ways.nd rfl (.inl rfl) (pv 4))))))
      (pss_one (ps_ret (pv 2))))), ?_⟩
    replace hn : n ≤ 6 := hn
    replace hm : m ≤ 4 := hm
    refine do_set (do_lst (do_cons (do_tup (do_nil ⟨Nat.zero_le _, fun r nr => do_nil ⟨by show 1 ≤ sizeLine; decide, fun f0 nf0 => ?_⟩⟩))))
    have e1 : Ex H (upd (upd H r (.tup [])) f0 (.lst [.ref r])) := (Ex.new nr).trans (Ex.new nf0)
    have nfH : H f0 = none := fresh_back (Ex.new nr) nf0
    have hf0 : (upd (upd H r (.tup [])) f0 (.lst [.ref r])) f0 = some (.lst [.ref r]) := upd_same
    have hr0 : (upd (upd H r (.tup [])) f0 (.lst [.ref r])) r = some (.tup []) := Ex.new nf0 _ _ upd_same
    generalize upd (upd H r (.tup [])) f0 (.lst [.ref r]) = H1 at *
    refine q_forR1 (n := (m : Int)) (ea_cons (ev_var rfl) ea_nil) ⟨by omega, by omega⟩ (fun i σ H' => Ex H H' ∧ ∃ (v : V) (y3 y4 y5 : Option V), RowsL K H' v (rows n i) ∧ (∀ d, v = .ref d → H d = none) ∧ σ = [some (vi m), some (vi n), some v, y3, y4, y5, none])
      (fun H2 e2 => ⟨e1.trans e2, .ref f0, none, none, none, ⟨f0, [.ref r], rfl, e2 _ _ hf0, .cons ⟨r, rfl, st_of (e2 _ _ hr0)⟩ .nil⟩, (fun d z => V.ref.inj z ▸ nfH), rfl⟩) (fun i σ H2 hi ⟨e2, v, y3, y4, y5, hv, hnv, hσ⟩ => ?_) (fun σ H2 ⟨e2, v, y3, y4, y5, hv, hnv, hσ⟩ => ?_)
    · subst hσ
      obtain ⟨a, us, rfl, ha, pus⟩ := hv
      have hi' : i < m := by omega
      have li : us.length = n ^ i := by rw [paired_len pus, rows_length]
      have b36 : n ^ i ≤ 216 := by
        have h1 : n ^ i ≤ 6 ^ i := Nat.pow_le_pow_left hn i
        have h2 : 6 ^ i ≤ 6 ^ 3 := Nat.pow_le_pow_right (by decide) (by omega)
        omega
      refine q_asgL (el_lst ea_nil (Nat.zero_le _)) fun lo H3 nlo e3 hlo => ?_
      refine q_forLs (do_ev (ev_var rfl) fun H4 e4 => ⟨a, rfl, ⟨us, sq_of ((e3.trans e4) _ _ ha)⟩, ?_⟩)
      have e24 := e3.trans e4
      refine qloops_list (K := K) (xs := us) (fun j σ H' => Ex H2 H' ∧ ∃ (l : Addr) (ws : List V) (y5 : Option V), H' l = some (.lst ws) ∧ H2 l = none ∧ Paired (Nats K H') ws (((rows n i).take j).flatMap fun r => (List.range n).map fun k => r ++ [k]) ∧ σ = [some (vi m), some (vi n), some (.ref a), some (vi i), some (.ref l), y5, none])
        ⟨e24, lo, [], y5, e4 _ _ hlo, nlo, .nil, rfl⟩ (fun j σ' H' _ ⟨e, _⟩ => sq_of (e _ _ ha)) (fun j x σ' H5 hx ⟨e5, l, ws, y5', hl, nl, pw, hσ⟩ => ?_) (fun σ' H5 ⟨e5, l, ws, y5', hl, nl, pw, hσ⟩ => ?_)
      · subst hσ
        obtain ⟨row, hrow, xa, rfl, hxa⟩ := paired_at pus hx
        have hj := (List.getElem?_eq_some_iff.mp hx).1
        have lr : row.length = i := (rows_of (List.mem_iff_getElem?.mpr ⟨j, hrow⟩)).1
        have lw : ws.length ≤ 216 * 6 := by
          rw [paired_len pw]
          have : ∀ L : List (List Nat), (L.flatMap fun r => (List.range n).map fun k => r ++ [k]).length = L.length * n := fun L => by
            induction L with
            | nil => simp
            | cons r L ih => rw [List.flatMap_cons, List.length_append, ih, List.length_map, List.length_range, List.length_cons, Nat.add_mul, Nat.one_mul, Nat.add_comm]
          rw [this, List.length_take]
          exact Nat.mul_le_mul (by omega) hn
        refine s_asgLP (elp_cat (ta := tVar 4) (ev_var rfl) hl (elp_lcR (n := n) (ea_cons (ev_var rfl) ea_nil) (by omega) (fun _ => true) (fun v k H' => Nats K H' v (row ++ [k])) (stb_nats (K := K) _) (fun _ => rfl) (fun k H6 hk e6 => ⟨et_yes, fun _ => tv_nats (tv_is (tv_cat (tv_ev (ev_var rfl) (ex_t (e5.trans e6) hxa)) (tv_tup (ea_cons (ev_var rfl) ea_nil) (by show 1 ≤ 100000; decide)) (by rw [List.length_map, lr]; show i + 1 ≤ 100000; omega)) (by rw [List.map_append]; rfl))⟩)) (fun ws2 H' p2 => by have := paired_len p2; rw [range_all, List.length_range] at this; omega) (fun ws2 H6 H7 e6 p2 => paired_imp (fun _ _ z => z.ex e6) p2)) fun l2 us2 H6 nl2 e6 hl2 ⟨ws2, hu2, p2⟩ => ?_
        subst hu2
        refine ⟨e5.trans e6, l2, ws ++ ws2, _, hl2, fresh_back e5 nl2, ?_, rfl⟩
        rw [List.take_add_one, hrow, List.flatMap_append]
        rw [range_all] at p2
        show Paired _ _ (_ ++ ([row].flatMap fun r => (List.range n).map fun k => r ++ [k]))
        rw [List.flatMap_singleton]
        exact paired_app (paired_imp (fun _ _ z => z.ex e6) pw) (paired_map (S := Nats K H6) (f := fun k => row ++ [k]) (fun _ _ z => z) p2)
      · subst hσ
        have full : (rows n i).take us.length = rows n i := List.take_of_length_le (by rw [paired_len pus]; exact Nat.le_refl _)
        rw [full] at pw
        refine s_asg (ev_var rfl) fun H6 e6 => ⟨e2.trans (e5.trans e6), .ref l, _, _, _, ⟨l, ws, rfl, e6 _ _ hl, paired_imp (fun _ _ z => z.ex e6) pw⟩, (fun d z => V.ref.inj z ▸ fresh_back e2 nl), rfl⟩
    · subst hσ
      rw [Int.toNat_natCast] at hv
      exact s_ret (ev_var rfl) fun H3 e3 => q _ H3 (e2.trans e3) (hv.ex e3) hnv
end
end K73
end
section
namespace K73
open PySem PySem.Spec PyProof.Rows L2 Evl RZ Dw M20 M25 CL
section
variable {P : Program} {w : World} {K : PySem.W.Frag} {mg : Str → Option Value} {base : Heap}
/-! ### a table -/
theorem tab_of {n pl : Nat} {ks : List Nat} (h1 : ks.length = n ^ pl) (h2 : ∀ k ∈ ks, k < n) : Tab n pl ks := ⟨h1, fun k hk => h2 _ (List.mem_iff_getElem?.mpr ⟨k, g_eq (by rw [h1]; exact hk)⟩)⟩
theorem mem_low {n x : Nat} {row : List Nat} (hx : x < n) (h : ∀ k ∈ row, k < n) : ∀ k ∈ x :: row, k < n := fun k hk => by
  rcases List.mem_cons.mp hk with z | z
  · omega
  · exact h k z
def sp_table (K : PySem.W.Frag) : Sp := fun vs H Q _ => ∃ (p c : Addr) (t n m : Nat), vs = [.ref p, vi m, vi n] ∧ Pur H p c t ∧ t ≤ 80000 ∧ 1 ≤ n ∧ n ≤ 6 ∧ m ≤ 2 ∧ ∀ v tb t' H', Off H H' p c → Pur H' p c t' → t' ≤ t + 100 → Nats K H' v tb → Tab n m tb → Q v H'
theorem c_table (T : Txt mg) (D : Df K mg "_law_table" s_table ["_law_purse_here", "_law_many", "_law_size"]) (c_draw : Cl P w K mg base 1 "_law_draw" sp_draw) (c_ways : Cl P w K mg base 1 "_law_ways" (sp_ways K)) : Cl P w K mg base 2 "_law_table" (sp_table K) := by
  refine cl_of (k := 1) D sc_table (fun vs H Q E h => ?_) (fun f cdv A outer s H vs Q E hr h => ?_)
  · obtain ⟨p, c, t, n, m, rfl, _⟩ := h
    rfl
  · obtain ⟨p, c, t, n, m, rfl, pu, t1, n1, n6, m2, q⟩ := h
    refine ⟨_, (pss_cons (ps_set (i := 3) sc_table.nd rfl (.inl rfl) (pe_cl c_draw hr (by first | decide | omega) (by rfl) (pa_cons (pv 0) (pa_cons pe_int pa_nil))))
      (pss_cons (ps_set (i := 4) sc_table.nd rfl (.inl rfl) (pe_cl c_draw hr (by first | decide | omega) (by rfl) (pa_cons (pv 0) (pa_cons (pv 2) pa_nil))))
      (pss_cons (ps_set (i := 5) sc_table.nd rfl (.inl rfl) (pe_lst pa_nil))
      (pss_cons (ps_for PassesOwn.never (by rfl) (pi_list (pe_cl c_ways hr (by first | decide | omega) (by rfl) (pa_cons (pv 1) (pa_cons (pv 2) pa_nil)))) (pg_name (i := 6) sc_table.nd rfl (.inl rfl))
        (pss_cons (ps_set (i := 7) sc_table.nd rfl (.inl rfl) (pe_cl c_draw hr (by first | decide | omega) (by rfl) (pa_cons (pv 0) (pa_cons (pv 2) pa_nil))))
        (pss_cons (ps_if (pt_cmpR op_eq (pv 3) pe_int (nomark _))
          (pss_one (ps_set (i := 7) sc_table.nd rfl (.inl rfl) (pv 4)))
          pss_nil)
        (pss_cons (ps_if (pt_cmpR op_eq (pv 3) pe_int (nomark _))
          (pss_one (ps_set (i := 7) sc_table.nd rfl (.inl rfl) (pe_op op_mod (pe_op op_add (pe_callB (cr_sumT rfl) (by rfl) T.z_sum (by decide +kernel) (pa_cons (pv 6) pa_nil)) (pv 4)) (pv 2))))
          pss_nil)
        (pss_cons (ps_if (pt_cmpR op_eq (pv 3) pe_int (nomark _))
          (pss_one (ps_set (i := 7) sc_table.nd rfl (.inl rfl) (pe_callB (cr_maxT rfl hr) (by rfl) T.z_max (by decide +kernel) (pa_cons (pe_op op_catA (pe_tup (pa_cons pe_int pa_nil)) (pv 6)) pa_nil))))
          pss_nil)
        (pss_cons (ps_if (pt_cmpR op_eq (pv 3) pe_int (nomark _))
          (pss_one (ps_set (i := 7) sc_table.nd rfl (.inl rfl) (pe_callB (cr_minT rfl hr) (by rfl) T.z_min (by decide +kernel) (pa_cons (pe_op op_catA (pe_tup (pa_cons (pe_op op_sub (pv 2) pe_int) pa_nil)) (pv 6)) pa_nil))))
          pss_nil)
        (pss_cons (ps_if (PW.pt (pw_and (pt_cmpR op_eq (pv 3) pe_int (nomark _)) (pw_and1 (pt_cmpR op_gt (pv 1) pe_int (nomark _)))))
          (pss_one (ps_set (i := 7) sc_table.nd rfl (.inl rfl) (pe_ix ix_tup (pv 6) (pe_un un_neg pe_int) (fun _ _ => rfl))))
          pss_nil)
        (pss_cons (ps_if (pt_cmpR op_eq (pv 3) pe_int (nomark _))
          (pss_one (ps_set (i := 7) sc_table.nd rfl (.inl rfl) (pe_op op_mod (pe_op op_add (pe_op op_mul pe_int (pe_callB (cr_sumT rfl) (by rfl) T.z_sum (by decide +kernel) (pa_cons (pv 6) pa_nil))) (pv 4)) (pv 2))))
          pss_nil)
        (pss_one (ps_expr (pe_bm PySem.F.plainAttrs_list PySem.F.slot_list_append PySem.F.type_list_append mt_append (pv 5) (pa_cons (pv 7) pa_nil))))))))))))
      (pss_one (ps_ret (pe_callTy call_tuple_of (by rfl) T.z_tuple (by decide +kernel) (pa_cons (pv 5) pa_nil)))))))), ?_⟩
    refine do_set (do_draw (ev_var rfl) (ev_c (v := vi 8)) pu (by omega) (by decide) (by decide) fun wy H1 hw o1 pu1 => ?_)
    refine do_set (do_draw (ev_var rfl) (ev_var rfl) pu1 (by omega) n1 (by omega) fun b H2 hb o2 pu2 => ?_)
    have o02 := o1.trans o2
    refine q_asgL (el_lst ea_nil (Nat.zero_le _)) fun fo H3 nfo e3 hfo => ?_
    have pu3 := pu2.ex e3
    obtain ⟨fp, fc⟩ := pu2.fresh nfo
    refine q_forLs (ea_cons (ev_var rfl) (ea_cons (ev_var rfl) ea_nil) H3 (Ex.refl _) _ fun H4 e4 => ⟨(n, m), ⟨rfl, n6, by show m ≤ 4; omega⟩, fun v H5 e5 ⟨ra, rvs, hra, hrl, prs⟩ nra => ⟨ra, hra, ⟨rvs, sq_of hrl⟩, ?_⟩⟩)
    subst hra
    have e35 := e4.trans e5
    replace prs : Paired (Nats K H5) rvs (rows n m) := prs
    have lrv := paired_len prs
    rw [rows_len'] at lrv
    have big := pow_36 n6 m2
    have nra4 := nra _ rfl
    have raf : ra ≠ fo := fun z => by rw [z, e4 _ _ hfo] at nra4; cases nra4
    have pu5 := pu3.ex e35
    obtain ⟨rp, rc⟩ := (pu3.ex e4).fresh nra4
    have nfoH : H fo = none := o02.back fp fc nfo
    have o05 : Off H H5 p c := o02.trans (.of_ex (e3.trans e35))
    refine qloops_list (K := K) (xs := rvs) (fun j σ H' => Off H H' p c ∧ Pur H' p c (t + 2 + j) ∧ H' ra = some (.lst rvs) ∧ (∃ ks : List Nat, H' fo = some (.lst (ks.map vi)) ∧ ks.length = j ∧ ∀ k ∈ ks, k < n) ∧ Paired (Nats K H') rvs (rows n m) ∧ ∃ y6 y7, σ = [some (.ref p), some (vi m), some (vi n), some (vi wy), some (vi b), some (.ref fo), y6, y7])
      ⟨o05, pu5, hrl, ⟨[], e35 _ _ hfo, rfl, fun _ z => nomatch z⟩, prs, none, none, rfl⟩ (fun j σ' H' _ ⟨_, _, hr, _⟩ => sq_of hr) (fun j x σ' H6 hx ⟨o6, pu6, hr6, ⟨ks, hks, lks, low⟩, pr6, y6, y7, hσ⟩ => ?_) (fun σ' H6 ⟨o6, pu6, hr6, ⟨ks, hks, lks, low⟩, pr6, y6, y7, hσ⟩ => ?_)
    · subst hσ
      obtain ⟨row, hrow, xa, rfl, hxa⟩ := paired_at pr6 hx
      obtain ⟨lr, rl⟩ := rows_of (List.mem_iff_getElem?.mpr ⟨j, hrow⟩)
      have hj := (List.getElem?_eq_some_iff.mp hx).1
      show tSeq _ _ _ [some (.ref p), some (vi m), some (vi n), some (vi wy), some (vi b), some (.ref fo), some (.ref xa), y7] H6
      refine do_set (do_draw (ev_var rfl) (ev_var rfl) pu6 (by omega) n1 (by omega) fun w0 H7 hw0 o7 pu7 => ?_)
      show tSeq _ _ _ [some (.ref p), some (vi m), some (vi n), some (vi wy), some (vi b), some (.ref fo), some (.ref xa), some (vi w0)] H7
      have hxa7 : SqT K H7 xa (row.map vi) := o7.et pu6 _ _ hxa
      refine q_mayset (C := fun v => ∃ k, k < n ∧ v = vi k) (et_test (ev_op (ev_var rfl) ev_c (rv_eq rfl))) ⟨w0, hw0, rfl⟩ rfl (fun _ H8 e8 => ep_ev (ev_var rfl) fun _ _ => ⟨b, hb, rfl⟩) fun v1 H8 e8 ⟨w1, hw1, hv1⟩ => ?_
      subst hv1
      have sumE : ∀ (v : Option V) H9, Ex H7 H9 → Ev (tCB (rSumT K) (tCons (tVar 6) tNil)) [some (.ref p), some (vi m), some (vi n), some (vi wy), some (vi b), some (.ref fo), some (.ref xa), v] H9 (vi row.sum) := fun v H9 e9 => ep_sumT (P := fun v H' => Nats K H' v row) (ep_ev (ev_var rfl) fun H1 e => ⟨xa, rfl, ex_t (e9.trans e) hxa7⟩) (fun _ _ h => h)
      show tSeq _ _ _ [some (.ref p), some (vi m), some (vi n), some (vi wy), some (vi b), some (.ref fo), some (.ref xa), some (vi w1)] H8
      refine q_mayset (C := fun v => ∃ k, k < n ∧ v = vi k) (et_test (ev_op (ev_var rfl) ev_c (rv_eq rfl))) ⟨w1, hw1, rfl⟩ rfl (fun _ H9 e9 => ep_ev (ev_modM (ev_addM (sumE _ H9 (e8.trans e9)) (ev_var rfl)) (ev_var rfl) n1) fun _ _ => ⟨_, Nat.mod_lt _ n1, rfl⟩) fun v2 H9 e9 ⟨w2, hw2, hv2⟩ => ?_
      subst hv2
      show tSeq _ _ _ [some (.ref p), some (vi m), some (vi n), some (vi wy), some (vi b), some (.ref fo), some (.ref xa), some (vi w2)] H9
      have e79 := e8.trans e9
      refine q_mayset (C := fun v => ∃ k, k < n ∧ v = vi k) (et_test (ev_op (ev_var rfl) ev_c (rv_eq rfl))) ⟨w2, hw2, rfl⟩ rfl (fun _ Ha ea => (ep_maxT (K := K) (ns := 0 :: row) (tv_nats (tv_is (tv_cat (tv_tup (xs := [vi 0]) (ea_cons ev_c ea_nil) (by show 1 ≤ 100000; decide)) (tv_ev (ev_var rfl) (ex_t (e79.trans ea) hxa7)) (by rw [List.length_map, lr]; show 1 + m ≤ 100000; omega)) rfl)) (by simp)).imp fun v H' _ ⟨k, hk, hv⟩ => ⟨k, mem_low n1 rl k hk, hv⟩) fun v3 Ha ea ⟨w3, hw3, hv3⟩ => ?_
      subst hv3
      show tSeq _ _ _ [some (.ref p), some (vi m), some (vi n), some (vi wy), some (vi b), some (.ref fo), some (.ref xa), some (vi w3)] Ha
      have e7a := e79.trans ea
      refine q_mayset (C := fun v => ∃ k, k < n ∧ v = vi k) (et_test (ev_op (ev_var rfl) ev_c (rv_eq rfl))) ⟨w3, hw3, rfl⟩ rfl (fun _ Hb eb => (ep_minT (K := K) (ns := (n - 1) :: row) (tv_nats (tv_is (tv_cat (tv_tup (xs := [vi (n - 1)]) (ea_cons (ev_subM (b := 1) (ev_var rfl) ev_c n1) ea_nil) (by show 1 ≤ 100000; decide)) (tv_ev (ev_var rfl) (ex_t (e7a.trans eb) hxa7)) (by rw [List.length_map, lr]; show 1 + m ≤ 100000; omega)) rfl)) (by simp)).imp fun v H' _ ⟨k, hk, hv⟩ => ⟨k, mem_low (by omega) rl k hk, hv⟩) fun v4 Hb eb ⟨w4, hw4, hv4⟩ => ?_
      subst hv4
      show tSeq _ _ _ [some (.ref p), some (vi m), some (vi n), some (vi wy), some (vi b), some (.ref fo), some (.ref xa), some (vi w4)] Hb
      have e7b := e7a.trans eb
      refine q_mayset (C := fun v => ∃ k, k < n ∧ v = vi k) (et_and (et_test (ev_op (ev_var rfl) ev_c (rv_eq rfl))) (fun _ => et_test (ev_op (ev_var rfl) ev_c rv_I0))) ⟨w4, hw4, rfl⟩ rfl (fun hbb Hc ec => ?_) fun v5 Hc ec ⟨w5, hw5, hv5⟩ => ?_
      · rw [Bool.and_eq_true] at hbb
        have m0 : 0 < m := by
          have := of_decide_eq_true hbb.2
          omega
        have ne : row ≠ [] := fun z => by rw [z] at lr; have : (0 : Nat) = m := lr; omega
        have eL : row.map vi = (row.dropLast.map vi) ++ [vi (row.getLast ne)] := by
          conv => lhs; rw [← List.dropLast_concat_getLast ne, List.map_append]
          rfl
        exact ep_ev (ev_op (ev_var rfl) (ev_un ev_c ru_neg) (rv_ixT (K := K) (ex_t (e7b.trans ec) hxa7) (by rw [eL]; exact atI_last _ _))) fun _ _ => ⟨_, rl _ (List.getLast_mem ne), rfl⟩
      subst hv5
      show tSeq _ _ _ [some (.ref p), some (vi m), some (vi n), some (vi wy), some (vi b), some (.ref fo), some (.ref xa), some (vi w5)] Hc
      have e7c := e7b.trans ec
      refine q_mayset (C := fun v => ∃ k, k < n ∧ v = vi k) (et_test (ev_op (ev_var rfl) ev_c (rv_eq rfl))) ⟨w5, hw5, rfl⟩ rfl (fun _ Hd ed => ep_ev (ev_modM (ev_addM (ev_mulM (a := 2) ev_c (sumE _ Hd (e7c.trans ed)) (by decide)) (ev_var rfl)) (ev_var rfl) n1) fun _ _ => ⟨_, Nat.mod_lt _ n1, rfl⟩) fun v6 Hd ed ⟨w6, hw6, hv6⟩ => ?_
      subst hv6
      show tDrop _ _ [some (.ref p), some (vi m), some (vi n), some (vi wy), some (vi b), some (.ref fo), some (.ref xa), some (vi w6)] Hd
      have e7d := e7c.trans ed
      have fo7 := o7 _ _ fp fc hks
      refine s_app (e7d _ _ fo7) (ev_var rfl) (ev_var rfl) (by rw [List.length_map]; omega) fun He ee => ?_
      have e7e := e7d.trans ee
      have o6e : Off H6 He p c := o7.trans (.of_ex e7e)
      have et : ET K He (upd He fo (.lst (ks.map vi ++ [vi w6]))) := ET.refl.upd (e7e _ _ fo7)
      refine ⟨(o6.trans o6e).upd nfoH, (pu7.ex e7e).upd fp fc, by rw [upd_ne raf]; exact o6e _ _ rp rc hr6, ⟨ks ++ [w6], by rw [upd_same, List.map_append]; rfl, by rw [List.length_append, lks]; rfl, fun k hk => ?_⟩, paired_imp (fun _ _ z => z.et ((o6e.et pu6).trans et)) pr6, _, _, rfl⟩
      rcases List.mem_append.mp hk with z | z
      · exact low k z
      · rw [List.mem_singleton.mp z]; exact hw6
    · subst hσ
      refine s_retU (eu_tupL (K := K) (ev_var rfl) (sq_of hks)) fun r H7 nr e7 hr7 => q _ ks _ H7 (o6.trans (.of_ex e7)) (pu6.ex e7) (by rw [lrv]; omega) ⟨r, rfl, st_of hr7⟩ (tab_of (by rw [lks, lrv]) low)
/-! ### a model drawn -/
def sp_model (K : PySem.W.Frag) : Sp := fun vs H Q _ => ∃ (p c : Addr) (t n : Nat) (u : V) (sg : List (Str × Nat)), vs = [.ref p, u, vi n] ∧ Pur H p c t ∧ t ≤ 70000 ∧ 1 ≤ n ∧ n ≤ 6 ∧ Sig K H u sg ∧ SigOk sg ∧ ∀ v ts t' H', Off H H' p c → Pur H' p c t' → t' ≤ t + 400 → Mdl K H' v n ts → MdlOk sg n ts → Q v H'
theorem c_model (T : Txt mg) (D : Df K mg "_law_model" s_mdl ["_law_purse_here", "_law_signature_here", "_law_size"]) (c_table : Cl P w K mg base 2 "_law_table" (sp_table K)) : Cl P w K mg base 3 "_law_model" (sp_model K) := by
  refine cl_of (k := 2) D sc_mdl (fun vs H Q E h => ?_) (fun f cdv A outer s H vs Q E hr h => ?_)
  · obtain ⟨p, c, t, n, u, sg, rfl, _⟩ := h
    rfl
  · obtain ⟨p, c, t, n, u, sg, rfl, pu, t1, n1, n6, hG, sok, q⟩ := h
    refine ⟨_, (pss_one (ps_ret (pe_tup (pa_cons (pv 2) (pa_cons (pe_callTy call_tuple_of (by rfl) T.z_tuple (by decide +kernel) (pa_cons (pe_lc (own := [("_law_name", 3), ("_law_many", 4)]) (g := (gTup _ 2 (gCons (gName 3) (gCons (gName 4) gNil)))) (by rfl) sc_mdl.nd (pi_tup (pv 1)) (blkOk_by (own := [("_law_name", 3), ("_law_many", 4)]) (N := ["_law_purse_here", "_law_signature_here", "_law_size", "_law_name", "_law_many"]) (sc := (defScope s_mdl)) (by decide +kernel)) (fun _ _ _ _ _ => (pg_tup (by rfl) (pgs_cons (pg_name (i := 3) sc_mdl.nd rfl (.inl rfl)) (pgs_cons (pg_name (i := 4) sc_mdl.nd rfl (.inl rfl)) pgs_nil)))) (fun _ _ _ _ _ => pts_nil) (fun _ _ _ _ _ => (pe_cl c_table hr (by first | decide | omega) (by rfl) (pa_cons (pv 0) (pa_cons (pv 4) (pa_cons (pv 2) pa_nil)))))) pa_nil)) pa_nil))))), ?_⟩
    obtain ⟨a, us, rfl, hS, hP⟩ := id hG
    have lS : us.length = sg.length := paired_len hP
    have l4 := sok.l4
    refine do_ret (do_tup (do_cons (do_ev (ev_var rfl) fun H1 e1 => do_cons (do_cb (do_cons ?_)))))
    have hS1 : SqT K H1 a us := ex_t e1 hS
    have pu1 := pu.ex e1
    refine do_lcIt walk_tup (fun R r => w_tup (K := K) (ev_var rfl) hS1 H1 (Ex.refl _) R r) (fun Dl i H' => H1 Dl = none ∧ Off H1 H' p c ∧ (∃ t', Pur H' p c t' ∧ t' ≤ t + 100 * i) ∧ ∃ ws ts, H' Dl = some (.lst ws) ∧ Paired (Nats K H') ws ts ∧ ts.length = i ∧ ∀ (j : Nat) d tb, sg[j]? = some d → ts[j]? = some tb → Tab n d.2 tb)
      (fun Dl H2 e2 nD => ⟨fresh_back e2 nD, .of_ex (e2.trans (Ex.new nD)), ⟨t, pu1.ex (e2.trans (Ex.new nD)), by omega⟩, [], [], upd_same, .nil, rfl, fun j d tb _ h2 => by rw [List.getElem?_nil] at h2; cases h2⟩) (fun Dl i H' _ ⟨_, o, _⟩ => o.et pu1 _ _ hS1) (fun Dl i x H2 H3 hi ⟨nD, o2, ⟨t', pu2, lt'⟩, ws, ts, hws, pws, lts, tabs⟩ y => ?_) (fun Dl H2 ⟨nD, o2, ⟨t', pu2, lt'⟩, ws, ts, hws, pws, lts, tabs⟩ => ?_)
    · obtain ⟨rfl, hx⟩ := y
      have hi2 : i < sg.length := by rw [← lS]; exact hi
      obtain ⟨x', ex', b, hb, db⟩ := paired_get hP (List.getElem?_eq_getElem hi2)
      have : x' = x := Option.some.inj (ex'.symm.trans hx)
      subst this
      subst hb
      obtain ⟨Dp1, Dc1⟩ := pu1.fresh nD
      have db3 : SqT K H3 b [.str sg[i].1, vi sg[i].2] := o2.et pu1 _ _ (ex_t e1 db)
      refine ⟨b, _, rfl, db3, rfl, _, _, rfl, _, _, rfl, rfl, rfl, iteT ?_⟩
      refine ea_cons (ev_var rfl) (ea_cons (ev_var rfl) (ea_cons (ev_var rfl) ea_nil)) H3 (Ex.refl H3) _ fun H4 e4 => ⟨p, c, t', n, sg[i].2, rfl, pu2.ex e4, by omega, n1, n6, sok.pl _ (List.getElem_mem hi2), fun v tb t2 H5 o5 pu5 l5 nt tt => ?_⟩
      have o35 : Off H3 H5 p c := (Off.of_ex e4).trans o5
      have hws5 : H5 Dl = some (.lst ws) := o35 _ _ Dp1 Dc1 hws
      have lw : ws.length = i := by rw [paired_len pws, lts]
      have et : ET K H5 (upd H5 Dl (.lst (ws ++ [v]))) := ET.refl.upd hws5
      refine ⟨ws, hws5, sz_lt (by omega), nD, (o2.trans o35).upd nD, ⟨t2, pu5.upd Dp1 Dc1, by omega⟩, ws ++ [v], ts ++ [tb], upd_same, paired_snoc (nt.et et) (paired_imp (fun _ _ z => z.et ((o35.et pu2).trans et)) pws), by rw [List.length_append, lts]; rfl, fun j d tb' h1 h2 => ?_⟩
      by_cases hj : j < ts.length
      · rw [List.getElem?_append_left hj] at h2
        exact tabs j d tb' h1 h2
      · have hj2 : j < (ts ++ [tb]).length := (List.getElem?_eq_some_iff.mp h2).1
        rw [List.length_append, List.length_singleton] at hj2
        have ej : j = ts.length := by omega
        subst ej
        rw [List.getElem?_append_right (Nat.le_refl _), Nat.sub_self] at h2
        cases Option.some.inj h2
        rw [lts, List.getElem?_eq_getElem hi2] at h1
        cases Option.some.inj h1
        exact tt
    · refine ⟨Dl, ws, rfl, .inl ⟨sq_of hws, fun r nr => ⟨by show 2 ≤ sizeLine; decide, fun m nm => ?_⟩⟩⟩
      have e24 : Ex H2 (upd (upd H2 r (.tup ws)) m (.tup [vi n, .ref r])) := (Ex.new nr).trans (Ex.new nm)
      refine q _ ts t' _ (((Off.of_ex e1).trans o2).trans (.of_ex e24)) (pu2.ex e24) (by omega) ⟨m, .ref r, rfl, st_of upd_same, r, ws, rfl, st_of (Ex.new nm _ _ upd_same), paired_imp (fun _ _ z => z.ex e24) pws⟩ ?_
      exact { len := by rw [lts, lS], n1 := n1, n6 := n6, tab := fun i h1 h2 => tabs i _ _ (List.getElem?_eq_getElem h1) (List.getElem?_eq_getElem h2) }
end
end K73
end
section
namespace K73
open PySem PySem.Spec PyProof.Rows L2 Evl RZ Dw M20 M25 CL
section
variable {P : Program} {w : World} {K : PySem.W.Frag} {mg : Str → Option Value} {base : Heap}
/-! ### what a cell comes to -/
def sp_did (K : PySem.W.Frag) : Sp := spX (fun (p : MArg × (Str × Nat) × Nat × List Nat) vs H => (∃ u v x, vs = [u, v, .str p.2.1.1, x] ∧ MA K H u v p.1 ∧ Nats K H x p.2.2.2) ∧ MOk p.1 ∧ p.1.1[p.2.2.1]? = some p.2.1 ∧ p.2.2.2.length = p.2.1.2 ∧ ∀ k ∈ p.2.2.2, k < p.1.2.1)
  (fun p v _ => v = vi (g (p.1.2.2.getD p.2.2.1 []) (plc p.1.2.1 p.2.2.2)))
theorem c_did (T : Txt mg) (D : Df K mg "_law_did" s_did ["_law_signature_here", "_law_model_here", "_law_name", "_law_args"]) : Cl P w K mg base 1 "_law_did" (sp_did K) := by
  refine cl_of (k := 0) D sc_did (fun vs H Q E h => ?_) (fun f cdv A outer s H vs Q E hr h => ?_)
  · obtain ⟨p, ⟨⟨u, v, x, rfl, _⟩, _⟩, _⟩ := h
    rfl
  · obtain ⟨⟨⟨sg, n, ts⟩, d, i, r⟩, ⟨⟨u, v, x, rfl, ⟨hG, hM⟩, hx⟩, ok, hi, lr, low⟩, q⟩ := h
    refine ⟨_, (pss_cons (ps_asg (pv 1) (pg_tup (by rfl) (pgs_cons (pg_name (i := 4) sc_did.nd rfl (.inl rfl)) (pgs_cons (pg_name (i := 5) sc_did.nd rfl (.inl rfl)) pgs_nil))))
      (pss_cons (ps_set (i := 6) sc_did.nd rfl (.inl rfl) (pe_bm PySem.F.plainAttrs_list PySem.F.slot_list_index PySem.F.type_list_index mt_index (pe_lc (own := [("_law_word", 9), ("_law_many", 10)]) (g := (gTup _ 2 (gCons (gName 9) (gCons (gName 10) gNil)))) (by rfl) sc_did.nd (pi_tup (pv 0)) (blkOk_by (own := [("_law_word", 9), ("_law_many", 10)]) (N := ["_law_signature_here", "_law_model_here", "_law_name", "_law_args", "_law_size", "_law_tables_here", "_law_k", "_law_at", "_law_arg", "_law_word", "_law_many"]) (sc := (defScope s_did)) (by decide +kernel)) (fun _ _ _ _ _ => (pg_tup (by rfl) (pgs_cons (pg_name (i := 9) sc_did.nd rfl (.inl rfl)) (pgs_cons (pg_name (i := 10) sc_did.nd rfl (.inl rfl)) pgs_nil)))) (fun _ _ _ _ _ => pts_nil) (fun _ _ _ _ _ => (pv 9))) (pa_cons (pv 2) pa_nil)))
      (pss_cons (ps_set (i := 7) sc_did.nd rfl (.inl rfl) pe_int)
      (pss_cons (ps_for PassesOwn.never (by rfl) (pi_tup (pv 3)) (pg_name (i := 8) sc_did.nd rfl (.inl rfl))
        (pss_one (ps_set (i := 7) sc_did.nd rfl (.inl rfl) (pe_op op_add (pe_op op_mul (pv 7) (pv 4)) (pv 8)))))
      (pss_one (ps_ret (pe_ix ix_tup (pe_ix ix_tup (pv 5) (pv 6) (fun _ _ => rfl)) (pv 7) (fun _ _ => rfl)))))))), ?_⟩
    replace ok : MOk (sg, n, ts) := ok
    replace hi : sg[i]? = some d := hi
    replace lr : r.length = d.2 := lr
    replace low : ∀ k ∈ r, k < n := low
    have sok : SigOk sg := ok.1
    have mok : MdlOk sg n ts := ok.2
    have n6 : n ≤ 6 := mok.n6
    obtain ⟨il, ed⟩ := List.getElem?_eq_some_iff.mp hi
    have il2 : i < ts.length := by rw [mok.len]; exact il
    have p2 := sok.pl d (List.mem_iff_getElem?.mpr ⟨i, hi⟩)
    obtain ⟨a, us, rfl, hS, hP⟩ := id hG
    obtain ⟨z, tv, rfl, hZ, hT⟩ := id hM
    obtain ⟨b, tvs, rfl, hB, hR⟩ := id hT
    obtain ⟨xa, rfl, hxa⟩ := id hx
    replace hZ : SqT K H z [vi n, .ref b] := hZ
    replace hP : Paired (Deed K H) us sg := hP
    replace hR : Paired (Nats K H) tvs ts := hR
    replace hxa : SqT K H xa (r.map vi) := hxa
    have lS : us.length = sg.length := paired_len hP
    have l4 := sok.l4
    refine ⟨.ref z, rfl, z, _, rfl, hZ, rfl, _, _, rfl, _, _, rfl, rfl, ?_⟩
    have names : ∀ H1, Ex H H1 → EvL (tLc (iTup K (tVar 0)) (gTup K 2 (gCons (gName 9) (gCons (gName 10) gNil))) tYes (tVar 9) [9, 10]) [some (.ref a), some (.ref z), some (.str d.1), some (.ref xa), some (vi n), some (.ref b), none, none, none, none, none] H1 ((sg.map (·.1)).map V.str) := fun H1 e1 H2 e2 Q' q' => by
      refine (elp_lcTg (K := K) (ev_var rfl) (ex_t (e1.trans e2) hS) (by omega) (fun _ => true) (fun v i _ => v = .str ((sg.map (·.1)).getD i "")) (fun _ _ _ _ _ z => z) (fun j y H3 e3 hy Φ kk => ?_)) H2 (Ex.refl _) _ fun l ws H3 nl e3 hl pw => q' l H3 nl e3 ?_
      · obtain ⟨dd, hdd, c, rfl, hc⟩ := paired_at hP hy
        refine ⟨c, _, rfl, ex_t ((e1.trans e2).trans e3) hc, rfl, _, _, rfl, _, _, rfl, rfl, kk _ rfl et_yes fun _ => ep_ev (ev_var rfl) fun _ _ => ?_⟩
        rw [List.getD_eq_getElem?_getD, List.getElem?_map, hdd]
        rfl
      · rw [range_all] at pw
        rw [hl, paired_eqs pw]
        congr 2
        apply List.ext_getElem?
        intro j
        rw [lS]
        by_cases hj : j < sg.length
        · rw [List.getElem?_map, List.getElem?_range hj, List.getElem?_map, List.getElem?_map, List.getElem?_eq_getElem hj]
          show some (V.str ((sg.map _).getD j "")) = _
          rw [List.getD_eq_getElem?_getD, List.getElem?_map, List.getElem?_eq_getElem hj]
          rfl
        · rw [List.getElem?_eq_none_iff.mpr (by simp; omega), List.getElem?_eq_none_iff.mpr (by simp; omega)]
    have mem : d.1 ∈ sg.map (·.1) := List.mem_map.mpr ⟨d, List.mem_iff_getElem?.mpr ⟨i, hi⟩, rfl⟩
    have idx : (sg.map (·.1)).idxOf d.1 = i := by
      have h1 : (sg.map (·.1))[i]? = some d.1 := by rw [List.getElem?_map, hi]; rfl
      have h2 := List.getElem_idxOf (List.idxOf_lt_length_iff.mpr mem)
      obtain ⟨h3, h4⟩ := List.getElem?_eq_some_iff.mp h1
      exact (List.getElem_inj sok.nd).mp (h2.trans h4.symm)
    refine q_asg (v := vi i) (ev_is (ev_sindex (K := K) (names H (Ex.refl _)) (ev_var rfl) mem) (by rw [idx])) fun H1 e1 => ?_
    refine q_asg (v := vi 0) ev_c fun H2 e2 => ?_
    have e02 := e1.trans e2
    refine q_forT (K := K) (ev_var rfl) (ex_t e02 hxa) (fun j σ H' => Ex H H' ∧ ∃ y, σ = [some (.ref a), some (.ref z), some (.str d.1), some (.ref xa), some (vi n), some (.ref b), some (vi i), some (vi (plc n (r.take j))), y, none, none]) (fun H3 e3 => ⟨e02.trans e3, none, rfl⟩) (fun j σ' H' _ ⟨e, _⟩ => ex_t e hxa) (fun j y σ' H3 hy ⟨e3, y8, hσ⟩ => ?_) (fun σ' H3 ⟨e3, y8, hσ⟩ => ?_)
    · subst hσ
      rw [List.getElem?_map] at hy
      cases hk : r[j]? with
      | none => rw [hk] at hy; cases hy
      | some k =>
      rw [hk] at hy
      cases Option.some.inj hy
      have small : plc n (r.take j) ≤ 1000 := by
        have a := plc_low (n := n) (ns := r.take j) (fun k h => low k (List.mem_of_mem_take h)) (by rw [List.length_take]; omega)
        have b := pow_36 (p := (r.take j).length) n6 (by rw [List.length_take]; omega)
        omega
      refine s_asg (v := vi (plc n (r.take (j + 1)))) (ev_is (ev_addN (ev_mulN (ev_var rfl) (ev_var rfl) small (by omega)) (ev_var rfl)) (by rw [plc_take hk])) fun H4 e4 => ⟨e3.trans e4, _, rfl⟩
    · subst hσ
      rw [List.length_map, List.take_length]
      have pl := plc_low low (by rw [lr]; exact p2)
      rw [lr] at pl
      have tb := mok.tab i il il2
      obtain ⟨t', et', ta, rfl, hta⟩ := paired_get hR (List.getElem?_eq_getElem il2)
      have egd : ts.getD i [] = ts[i] := by rw [List.getD_eq_getElem?_getD, List.getElem?_eq_getElem il2]; rfl
      refine s_ret (ev_op (ev_op (ev_var rfl) (ev_var rfl) (rv_ixT (K := K) (ex_t e3 hB) (atI_vi (k := i) et'))) (ev_var rfl) (rv_ixT (K := K) (ex_t e3 hta) (atI_vi (k := plc n r) (v := vi (g ts[i] (plc n r))) (by rw [List.getElem?_map, g_eq (show plc n r < ts[i].length by rw [tb.len, ed]; exact pl)]; rfl)))) fun H4 e4 => q _ H4 (e3.trans e4) ?_
      show _ = vi (g (ts.getD i []) (plc n r))
      rw [egd]
/-! ### all cells of a signature -/
def allc (n : Nat) (sg : List (Str × Nat)) : List (Str × List Nat) := sg.flatMap fun d => (rows n d.2).map fun r => (d.1, r)
abbrev Fnd := Int × Nat × Str × List Nat
def FndV (K : PySem.W.Frag) (v : V) (c : Fnd) (H : Hp) : Prop := ∃ b x, v = .ref b ∧ SqT K H b [.int c.1, vi c.2.1, x, .str c.2.2.1] ∧ Nats K H x c.2.2.2
theorem FndV.et {v : V} {c : Fnd} {H H' : Hp} (e : ET K H H') (h : FndV K v c H) : FndV K v c H' := let ⟨b, x, q, s, n⟩ := h; ⟨b, x, q, e _ _ s, n.et e⟩
def dF (c : Fnd) : PyData := .tuple [.int c.1, .int (c.2.1 : Int), dN c.2.2.2, .str c.2.2.1]
theorem FndV.dp {v : V} {c : Fnd} {H : Hp} (h : FndV K v c H) : Dp K H v (dF c) := let ⟨b, x, q, s, n⟩ := h; by
  subst q
  exact .tup s (.cons (.int _) (.cons (.int _) (.cons n.dp (.cons (.str _) .nil))))
def ArgV (K : PySem.W.Frag) (H : Hp) (v : V) (c : Str × List Nat) : Prop := ∃ b x, v = .ref b ∧ SqT K H b [.str c.1, x] ∧ Nats K H x c.2
theorem ArgV.et {v : V} {c : Str × List Nat} {H H' : Hp} (e : ET K H H') (h : ArgV K H v c) : ArgV K H' v c := let ⟨b, x, q, s, n⟩ := h; ⟨b, x, q, e _ _ s, n.et e⟩
theorem allc_few {n : Nat} {sg : List (Str × Nat)} (n6 : n ≤ 6) (so : SigOk sg) (i : Nat) : (allc n (sg.take i)).length ≤ 144 := by
  have one : ∀ l : List (Str × Nat), (∀ d ∈ l, d.2 ≤ 2) → (allc n l).length ≤ 36 * l.length := fun l => by
    induction l with
    | nil => exact fun _ => Nat.zero_le _
    | cons d l ih =>
      intro h
      have a := ih fun x hx => h x (List.mem_cons_of_mem _ hx)
      have b := pow_36 n6 (h d (List.mem_cons_self ..))
      unfold allc at a ⊢
      rw [List.flatMap_cons, List.length_append, List.length_map, rows_len', List.length_cons]
      omega
  have a := one (sg.take i) fun d hd => so.pl d (List.mem_of_mem_take hd)
  have l4 := so.l4
  have lt : (sg.take i).length ≤ 4 := by rw [List.length_take]; omega
  exact Nat.le_trans a (Nat.mul_le_mul_left 36 lt)
end
end K73
end
section
namespace K73
open PySem PySem.Spec PyProof.Rows L2 Evl RZ Dw M20 M25 CL PySem.W
section
variable {P : Program} {w : World} {K : PySem.W.Frag} {mg : Str → Option Value} {base : Heap}
/-! ### closed, as the law looks -/
end
end K73
end
section
namespace K73
open PySem PySem.Spec PyProof.Rows L2 Evl RZ Dw M20 M25 CL
section
variable {P : Program} {w : World} {K : PySem.W.Frag} {mg : Str → Option Value} {base : Heap}
theorem sig_at {p : MArg} (ok : MOk p) {c : Str × List Nat} (h : c ∈ allc p.2.1 p.1) : ∃ (i : Nat) (d : Str × Nat), p.1[i]? = some d ∧ c.1 = d.1 ∧ c.2 ∈ rows p.2.1 d.2 := by
  unfold allc at h
  obtain ⟨d, hd, hc⟩ := List.mem_flatMap.mp h
  obtain ⟨i, hi⟩ := List.mem_iff_getElem?.mp hd
  obtain ⟨r, hr, rfl⟩ := List.mem_map.mp hc
  exact ⟨i, d, hi, rfl, hr⟩
theorem sig_one {p : MArg} (ok : MOk p) {i j : Nat} {d e : Str × Nat} (hi : p.1[i]? = some d) (hj : p.1[j]? = some e) (h : d.1 = e.1) : i = j ∧ d = e := by
  obtain ⟨il, ed⟩ := List.getElem?_eq_some_iff.mp hi
  obtain ⟨jl, ee⟩ := List.getElem?_eq_some_iff.mp hj
  have : i = j := (List.getElem_inj (h₀ := by rw [List.length_map]; exact il) (h₁ := by rw [List.length_map]; exact jl) ok.1.nd).mp (by rw [List.getElem_map, List.getElem_map, ed, ee]; exact h)
  subst this
  exact ⟨rfl, by rw [← ed, ← ee]⟩
/-! ### all lists of numbers, sorted -/
end
end K73
end
section
namespace K73
open PySem PySem.Spec PyProof.Rows L2 Evl RZ Dw M20 M25 CL
section
variable {P : Program} {w : World} {K : PySem.W.Frag} {mg : Str → Option Value} {base : Heap}
/-! ### the least of them about some numbers -/
/-! ### the part, as the law makes it -/
/-! ### something put behind a list -/
end
end K73
end
section
namespace K73
open PySem PySem.Spec PyProof.Rows L2 Evl RZ Dw M20 M25 CL LD
/-! ### the table of a deed -/
def tbOf : List (Str × Nat) → List (List Nat) → Str → List Nat
  | d :: sg, tb :: tbs, f => if d.1 = f then tb else tbOf sg tbs f
  | _, _, _ => []
theorem tbOf_at : ∀ {sg : List (Str × Nat)} {tbs : List (List Nat)} {f : Str} {i : Nat} (h1 : i < sg.length) (h2 : i < tbs.length), sg[i].1 = f → (∀ j (h : j < sg.length), j < i → sg[j].1 ≠ f) → tbOf sg tbs f = tbs[i]
  | d :: sg, tb :: tbs, f, 0, _, _, e, _ => by
    rw [tbOf, if_pos (show d.1 = f from e)]
    rfl
  | d :: sg, tb :: tbs, f, i + 1, h1, h2, e, no => by
    rw [tbOf, if_neg (show ¬ d.1 = f from no 0 (Nat.zero_lt_succ _) (Nat.zero_lt_succ _))]
    exact tbOf_at (sg := sg) (tbs := tbs) (i := i) (Nat.lt_of_succ_lt_succ h1) (Nat.lt_of_succ_lt_succ h2) e fun j h lt => no (j + 1) (Nat.succ_lt_succ h) (Nat.succ_lt_succ lt)
section
variable {P : Program} {w : World} {K : PySem.W.Frag} {mg : Str → Option Value} {base : Heap}
def sp_table_of (K : PySem.W.Frag) : Sp := spX (fun (p : List (Str × Nat) × Nat × List (List Nat) × Str × Nat) vs H => (∃ u v, vs = [u, v, .str p.2.2.2.1] ∧ Sig K H u p.1 ∧ Tabs K H v p.2.2.1) ∧ p.2.2.1.length = p.1.length ∧ (p.2.2.2.1, p.2.2.2.2) ∈ p.1) (fun p v H => Nats K H v (tbOf p.1 p.2.2.1 p.2.2.2.1))
theorem c_table_of (T : Txt mg) (D : Df K mg "table_of" s_table_of ["signature", "tables", "name"]) : Cl P w K mg base 1 "table_of" (sp_table_of K) := by
  refine cl_of (k := 0) D sc_table_of (fun vs H Q E h => ?_) (fun f cdv A outer s H vs Q E hr h => ?_)
  · obtain ⟨p, ⟨⟨u, v, rfl, _⟩, _⟩, _⟩ := h
    rfl
  · obtain ⟨⟨sg, n, tbs, f, k⟩, ⟨⟨u, v, rfl, hG, hT⟩, lM, mem⟩, q⟩ := h
    refine ⟨_, (pss_cons (ps_for PassesOwn.never (by rfl) (pi_zipA (by rfl) T.z_zip (pa_cons (pv 0) (pa_cons (pv 1) pa_nil))) (pg_tup (by rfl) (pgs_cons (pg_name (i := 3) sc_table_of.nd rfl (.inl rfl)) (pgs_cons (pg_name (i := 4) sc_table_of.nd rfl (.inl rfl)) pgs_nil)))
        (pss_one (ps_if (pt_cmpR op_eq (pe_ix ix_tup (pv 3) pe_int (fun _ _ => rfl)) (pv 2) (nomark _))
          (pss_one (ps_ret (pv 4)))
          pss_nil)))
      (pss_one (ps_ret pe_non))), ?_⟩
    replace lM : tbs.length = sg.length := lM
    replace mem : (f, k) ∈ sg := mem
    obtain ⟨a, us, rfl, hS, hP⟩ := id hG
    obtain ⟨b, tvs, rfl, hB, hR⟩ := id hT
    replace hP : Paired (Deed K H) us sg := hP
    replace hR : Paired (Nats K H) tvs tbs := hR
    have lS : us.length = sg.length := paired_len hP
    have lT : tvs.length = tbs.length := paired_len hR
    refine q_zipT (ea_cons (ev_var rfl) (ea_cons (ev_var rfl) ea_nil)) hS hB (by rw [lS, lT, lM]) (fun i σ H' => Ex H H' ∧ (∀ j (h : j < sg.length), j < i → sg[j].1 ≠ f) ∧ ∃ y3 y4, σ = [some (.ref a), some (.ref b), some (.str f), y3, y4])
      (fun H2 e2 => ⟨e2, fun j _ z => absurd z (Nat.not_lt_zero _), none, none, rfl⟩) (fun i σ H' _ ⟨e, _⟩ => ⟨ex_t e hS, ex_t e hB⟩) (fun i d tv p σ H2 hd ht hPv np => ?_) (fun σ H2 hPv => ?_)
    · obtain ⟨e2, no, y3, y4, hσ⟩ := hPv
      subst hσ
      have hi : i < sg.length := by rw [← lS]; exact (List.getElem?_eq_some_iff.mp hd).1
      have hi2 : i < tbs.length := by rw [lM]; exact hi
      obtain ⟨d', ed', c, hc, dc⟩ := paired_get hP (List.getElem?_eq_getElem hi)
      have : d' = d := Option.some.inj (ed'.symm.trans hd)
      subst this
      subst hc
      obtain ⟨t', et', nt⟩ := paired_get hR (List.getElem?_eq_getElem hi2)
      have : t' = tv := Option.some.inj (et'.symm.trans ht)
      subst this
      have e3 : Ex H2 (upd H2 p (.tup [.ref c, t'])) := Ex.new np
      have e03 : Ex H (upd H2 p (.tup [.ref c, t'])) := e2.trans e3
      refine ⟨p, _, rfl, st_of upd_same, rfl, _, _, rfl, _, _, rfl, rfl, ?_⟩
      show tIfS _ _ _ _ [some (.ref a), some (.ref b), some (.str f), some (.ref c), some t'] (upd H2 p (.tup [.ref c, t']))
      refine s_when (et_test (ev_op (ev_op (ev_var rfl) ev_c (rv_ixT (K := K) (ex_t e03 dc) (atI_vi (k := 0) rfl))) (ev_var rfl) (rv_eq rfl))) (fun hb H4 e4 => ?_) (fun hb H4 e4 => ?_)
      · have isF : sg[i].1 = f := V.str.inj (of_decide_eq_true hb)
        refine s_ret (ev_var rfl) fun H5 e5 => q _ H5 (e03.trans (e4.trans e5)) ?_
        show Nats K H5 t' (tbOf sg tbs f)
        rw [tbOf_at hi hi2 isF no]
        exact nt.ex (e03.trans (e4.trans e5))
      · have notF : sg[i].1 ≠ f := fun z => by
          rw [z] at hb
          exact absurd rfl (of_decide_eq_false hb)
        refine ⟨e03.trans e4, fun j h lt => ?_, _, _, rfl⟩
        by_cases e : j < i
        · exact no j h e
        · have : j = i := by omega
          subst this
          exact notF
    · obtain ⟨e2, no, y3, y4, hσ⟩ := hPv
      obtain ⟨i, hi⟩ := List.mem_iff_getElem?.mp mem
      have il : i < sg.length := (List.getElem?_eq_some_iff.mp hi).1
      rw [List.getElem?_eq_getElem il] at hi
      exact absurd (by rw [Option.some.inj hi]) (no i il (by rw [lS]; exact il))
/-! ### leads -/
def sp_need_two (K : PySem.W.Frag) : Sp := spX (fun (p : MArg × MArg) vs H => (∃ u v w, vs = [u, v, w] ∧ MA K H u v p.1 ∧ Mdl K H w p.2.2.1 p.2.2.2) ∧ MOk p.1 ∧ MOk p.2 ∧ p.2.1 = p.1.1) (fun _ v _ => v = .non)
theorem c_need_two_models (T : Txt mg) (D : Df K mg "need_two_models" s_need_two_models ["signature", "one", "other"]) (c_need_model : Cl P w K mg base 7 "need_model" (sp_need_model K)) : Cl P w K mg base 8 "need_two_models" (sp_need_two K) := by
  refine cl_of (k := 7) D sc_need_two_models (fun vs H Q E h => ?_) (fun f cdv A outer s H vs Q E hr h => ?_)
  · obtain ⟨p, ⟨⟨u, v, w, rfl, _⟩, _⟩, _⟩ := h
    rfl
  · obtain ⟨⟨p, p2⟩, ⟨⟨u, v, w, rfl, hm, hw⟩, ok, ok2, es⟩, q⟩ := h
    refine ⟨_, (pss_cons (ps_expr (pe_cl c_need_model hr (by first | decide | omega) (by rfl) (pa_cons (pv 0) (pa_cons (pv 1) pa_nil))))
      (pss_one (ps_expr (pe_cl c_need_model hr (by first | decide | omega) (by rfl) (pa_cons (pv 0) (pa_cons (pv 2) pa_nil)))))), ?_⟩
    replace hm : MA K H u v p := hm
    replace es : p2.1 = p.1 := es
    refine q_drop (v := .non) (ev_callV p (ea_cons (ev_var rfl) (ea_cons (ev_var rfl) ea_nil)) (fun H1 e1 => ⟨⟨_, _, rfl, hm.1.ex e1, hm.2.ex e1⟩, ok.1, ok.2⟩) (fun _ _ p => p)) fun H1 e1 => ?_
    exact s_drop (v := .non) (ev_callV p2 (ea_cons (ev_var rfl) (ea_cons (ev_var rfl) ea_nil)) (fun H2 e2 => ⟨⟨_, _, rfl, by rw [es]; exact hm.1.ex (e1.trans e2), hw.ex (e1.trans e2)⟩, ok2.1, ok2.2⟩) (fun _ _ p => p)) fun H2 e2 => q _ H2 (e1.trans e2) rfl
def LcV (K : PySem.W.Frag) (H : Hp) (v : V) (c : LC) : Prop := ∃ b x y, v = .ref b ∧ SqT K H b [x, vi c.2.1, y] ∧ Nats K H x c.1 ∧ Nats K H y c.2.2
theorem LcV.et {H H' : Hp} {v : V} {c : LC} (e : ET K H H') (h : LcV K H v c) : LcV K H' v c := let ⟨b, x, y, q, s, n, m⟩ := h; ⟨b, x, y, q, e _ _ s, n.et e, m.et e⟩
/-- a cell that fits images -/
structure GdC (n2 : Nat) (f : List Nat) (c : LC) : Prop where
  l2 : c.1.length ≤ 2
  ar : ∀ x ∈ c.1, x < f.length
  wr : c.2.1 < f.length
  tb : c.2.2.length = n2 ^ c.1.length
def sp_leads_on (K : PySem.W.Frag) : Sp := spX (fun (p : List LC × Nat × List Nat) vs H => (∃ b ws a, vs = [.ref b, vi p.2.1, .ref a] ∧ H b = some (.lst ws) ∧ Paired (LcV K H) ws p.1 ∧ SqL K H a (p.2.2.map vi)) ∧ p.2.1 ≤ 6 ∧ (∀ y ∈ p.2.2, y < p.2.1) ∧ ∀ c ∈ p.1, GdC p.2.1 p.2.2 c) (fun p v _ => v = .bl (allOk p.2.1 p.1 p.2.2))
theorem c_leads_on (T : Txt mg) (D : Df K mg "leads_on" s_leads_on ["cells", "size", "images"]) (c_place_of_row : Cl P w K mg base 1 "place_of_row" (sp_place_of_row K)) : Cl P w K mg base 2 "leads_on" (sp_leads_on K) := by
  refine cl_of (k := 1) D sc_leads_on (fun vs H Q E h => ?_) (fun f cdv A outer s H vs Q E hr h => ?_)
  · obtain ⟨p, ⟨⟨b, ws, a, rfl, _⟩, _⟩, _⟩ := h
    rfl
  · obtain ⟨⟨cs, n2, F⟩, ⟨⟨b, ws, a, rfl, hb, pw, ha⟩, n6, low, gd⟩, q⟩ := h
    refine ⟨_, (pss_cons (ps_for PassesOwn.never (by rfl) (pi_list (pv 0)) (pg_tup (by rfl) (pgs_cons (pg_name (i := 3) sc_leads_on.nd rfl (.inl rfl)) (pgs_cons (pg_name (i := 4) sc_leads_on.nd rfl (.inl rfl)) (pgs_cons (pg_name (i := 5) sc_leads_on.nd rfl (.inl rfl)) pgs_nil))))
        (pss_one (ps_if (pt_cmpR op_ne (pe_ix ix_list (pv 2) (pv 4) (fun _ _ => rfl)) (pe_ix ix_tup (pv 5) (pe_cl c_place_of_row hr (by first | decide | omega) (by rfl) (pa_cons (pv 1) (pa_cons (pe_lc (own := [("arg", 6)]) (g := (gName 6)) (by rfl) sc_leads_on.nd (pi_tup (pv 3)) (blkOk_by (own := [("arg", 6)]) (N := ["cells", "size", "images", "args", "worth", "table", "arg"]) (sc := (defScope s_leads_on)) (by decide +kernel)) (fun _ _ _ _ _ => (pg_name (i := 6) sc_leads_on.nd rfl (.inl rfl))) (fun _ _ _ _ _ => pts_nil) (fun _ _ _ _ _ => (pe_ix (ix_listK K) (pv 2) (pv 6) (fun _ _ => rfl)))) pa_nil))) (fun _ _ => rfl)) (nomark _))
          (pss_one (ps_ret pe_bl))
          pss_nil)))
      (pss_one (ps_ret pe_bl))), ?_⟩
    replace hb : H b = some (.lst ws) := hb
    replace pw : Paired (LcV K H) ws cs := pw
    replace ha : SqL K H a (F.map vi) := ha
    replace n6 : n2 ≤ 6 := n6
    replace low : ∀ y ∈ F, y < n2 := low
    replace gd : ∀ c ∈ cs, GdC n2 F c := gd
    refine q_forLs (do_ev (ev_var rfl) fun H1 e1 => ⟨b, rfl, ⟨ws, sq_of (e1 _ _ hb)⟩, ?_⟩)
    refine qloops_list (K := K) (xs := ws) (fun i σ H' => Ex H H' ∧ (cs.take i).all (okC n2 F) = true ∧ ∃ y3 y4 y5, σ = [some (.ref b), some (vi n2), some (.ref a), y3, y4, y5, none]) ⟨e1, by rw [List.take_zero]; rfl, none, none, none, rfl⟩ (fun i σ' H' _ ⟨e, _⟩ => sq_of (e _ _ hb)) (fun i x σ' H2 hx ⟨e2, al, y3, y4, y5, hσ⟩ => ?_) (fun σ' H2 ⟨e2, al, y3, y4, y5, hσ⟩ => ?_)
    · subst hσ
      obtain ⟨c, hc, t, x1, y1, rfl, ht, ⟨xa, rfl, hxa⟩, ⟨ya, rfl, hya⟩⟩ := paired_at pw hx
      have mem := List.mem_iff_getElem?.mpr ⟨i, hc⟩
      obtain ⟨l2, ar, wr, tb⟩ := gd c mem
      have im : ∀ k ∈ c.1.map (g F), k < n2 := fun k hk => by
        obtain ⟨j, hj, rfl⟩ := List.mem_map.mp hk
        exact low _ (M25.g_mem (ar j hj))
      have pl := plc_low im (by rw [List.length_map]; exact l2)
      rw [List.length_map, ← tb] at pl
      refine ⟨t, _, rfl, ex_t e2 ht, rfl, _, _, rfl, _, _, rfl, _, _, rfl, rfl, ?_⟩
      have place : Ev (tCall (sp_place_of_row K) [] E0 (tCons (tVar 1) (tCons (tLc (iTup K (tVar 3)) (gName 6) tYes (tOp (rIxL K) (tVar 2) (tVar 6)) [6]) tNil))) [some (.ref b), some (vi n2), some (.ref a), some (.ref xa), some (vi c.2.1), some (.ref ya), none] H2 (vi (plc n2 (c.1.map (g F)))) := fun H7 e7 Q' q' =>
        do_cons (do_ev (ev_var rfl) fun H8 e8 => do_cons (el_getS (K := K) (row := c.1) (S := F) (i := 3) (j := 6) (k := 2) (fun _ => rfl) rfl (fun _ => rfl) (fun _ => rfl) (ex_t (e2.trans (e7.trans e8)) hxa) (ex_l (e2.trans (e7.trans e8)) ha) ar (by omega) H8 (Ex.refl _) _ fun l H9 nl e9 hl => do_nil ⟨(n2, c.1.map (g F)), ⟨⟨l, rfl, hl⟩, n6, by rw [List.length_map]; exact l2, im⟩, fun v H10 e10 hv => by rw [hv]; exact q' H10 ((e8.trans e9).trans e10)⟩))
      refine s_when (b := !decide (vi (g F c.2.1) = vi (g c.2.2 (plc n2 (c.1.map (g F)))))) (et_test (ev_op (ev_op (ev_var rfl) (ev_var rfl) (rv_ixL (K := K) (ex_l e2 ha) (atI_vi (k := c.2.1) (v := vi (g F c.2.1)) (by rw [List.getElem?_map, g_eq wr]; rfl)))) (ev_op (ev_var rfl) place (rv_ixT (K := K) (ex_t e2 hya) (atI_vi (k := plc n2 (c.1.map (g F))) (v := vi (g c.2.2 (plc n2 (c.1.map (g F))))) (by rw [List.getElem?_map, g_eq pl]; rfl)))) (rv_ne rfl))) (fun ho H3 e3 => s_ret ev_c fun H4 e4 => q _ H4 ((e2.trans e3).trans e4) ?_) (fun ho H3 e3 => ⟨e2.trans e3, ?_, _, _, _, rfl⟩)
      · show V.bl false = V.bl (allOk n2 cs F)
        cases ha : allOk n2 cs F with
        | false => rfl
        | true =>
          have := List.all_eq_true.mp ha c mem
          have z := of_decide_eq_true this
          rw [z, decide_eq_true rfl] at ho
          cases ho
      · rw [List.take_add_one, hc, List.all_append, al]
        show (true && ([c].all _)) = true
        rw [List.all_cons, List.all_nil, Bool.and_true, Bool.true_and]
        have : vi (g F c.2.1) = vi (g c.2.2 (plc n2 (c.1.map (g F)))) := by
          rw [Bool.not_eq_false'] at ho
          exact of_decide_eq_true ho
        have z := V.int.inj this
        exact decide_eq_true (by omega)
    · subst hσ
      have full : cs.take ws.length = cs := List.take_of_length_le (by rw [paired_len pw]; exact Nat.le_refl _)
      rw [full] at al
      refine s_ret ev_c fun H3 e3 => q _ H3 (e2.trans e3) ?_
      show V.bl true = V.bl (allOk n2 cs F)
      rw [show allOk n2 cs F = true from al]
end
end K73
end
section
namespace K73
open PySem PySem.Spec PyProof.Rows L2 Evl RZ Dw M20 M25 CL LD
section
variable {P : Program} {w : World} {K : PySem.W.Frag} {mg : Str → Option Value} {base : Heap}
/-- the cells of the one with the tables of the other -/
def lcs (p p2 : MArg) : List LC := (cwm p).map fun c => (c.2.1, c.2.2, tbOf p.1 p2.2.2 c.1)
theorem tbOf_sig {p2 : MArg} {p : MArg} (ok : MOk p) (ok2 : MOk p2) (es : p2.1 = p.1) {i : Nat} {d : Str × Nat} (hi : p.1[i]? = some d) : ∃ h : i < p2.2.2.length, tbOf p.1 p2.2.2 d.1 = p2.2.2[i] ∧ Tab p2.2.1 d.2 p2.2.2[i] := by
  obtain ⟨il, ed⟩ := List.getElem?_eq_some_iff.mp hi
  have il2 : i < p2.2.2.length := by rw [ok2.2.len, es]; exact il
  have il3 : i < p2.1.length := by rw [es]; exact il
  refine ⟨il2, ?_, ?_⟩
  · refine tbOf_at il il2 (by rw [ed]) fun j h lt e => ?_
    have := (sig_one ok (List.getElem?_eq_getElem h) hi e).1
    omega
  · have := ok2.2.tab i il3 il2
    rw [show p2.1[i] = d from by rw [← ed]; simp only [es]] at this
    exact this
theorem lcs_gd {p p2 : MArg} (ok : MOk p) (ok2 : MOk p2) (es : p2.1 = p.1) {f : List Nat} (lf : f.length = p.2.1) : ∀ c ∈ lcs p p2, GdC p2.2.1 f c := fun c hc => by
  obtain ⟨c0, hc0, rfl⟩ := List.mem_map.mp hc
  obtain ⟨l2, ar, wr⟩ := ok.cells c0 hc0
  obtain ⟨i, d, t, j, r, h1, h2, h3, h4, h5, h6⟩ := cws_mem.mp hc0
  obtain ⟨il, e1, tb⟩ := tbOf_sig ok ok2 es h1
  refine ⟨l2, fun x hx => by rw [lf]; exact ar x hx, by rw [lf]; exact wr, ?_⟩
  show (tbOf p.1 p2.2.2 c0.1).length = _
  rw [h5, e1, tb.len, h6, (rows_of (List.mem_iff_getElem?.mpr ⟨j, h3⟩)).1]
theorem lcs_grt {p p2 : MArg} (ok : MOk p) : ∀ c ∈ lcs p p2, grt c < p.2.1 := fun c hc => by
  obtain ⟨c0, hc0, rfl⟩ := List.mem_map.mp hc
  obtain ⟨l2, ar, wr⟩ := ok.cells c0 hc0
  exact grt_low ar wr
/-- lists of cells by their greatest -/
structure CgL (K : PySem.W.Frag) (H0 H : Hp) (a : Addr) (bs : List Addr) (f : Nat → List LC) (n : Nat) : Prop where
  at_ : H a = some (.lst (bs.map V.ref))
  new : H0 a = none
  len : bs.length = n
  each : ∀ (k : Nat) (b : Addr), bs[k]? = some b → H0 b = none ∧ ∃ ws, H b = some (.lst ws) ∧ Paired (LcV K H) ws (f k)
  nd : bs.Nodup
  ne : a ∉ bs
theorem CgL.ex {H0 H H' : Hp} {a : Addr} {bs : List Addr} {f : Nat → List LC} {n : Nat} (e : Ex H H') (h : CgL K H0 H a bs f n) : CgL K H0 H' a bs f n := ⟨e _ _ h.at_, h.new, h.len, fun k b hb => let ⟨z, ws, q, p⟩ := h.each k b hb; ⟨z, ws, e _ _ q, paired_imp (fun _ _ y => LcV.et (Dw.Ex.et e) y) p⟩, h.nd, h.ne⟩
def grp (cs : List LC) (k : Nat) : List LC := cs.filter fun c => decide (grt c = k)
def sp_by_greatest (K : PySem.W.Frag) : Sp := fun vs H Q _ => ∃ (p p2 : MArg) (u v w : V), vs = [u, v, w] ∧ MA K H u v p ∧ Mdl K H w p2.2.1 p2.2.2 ∧ MOk p ∧ MOk p2 ∧ p2.1 = p.1 ∧ ∀ a bs H', Ex H H' → CgL K H H' a bs (grp (lcs p p2)) p.2.1 → Q (.ref a) H'
theorem ep_lc {σ : L2.St} {H : Hp} {t1 t2 : TE} {t3 : TE} {x : V} {c : LC} (h1 : Ev t1 σ H x) (h2 : Ev t2 σ H (vi c.2.1)) (h3 : EvP t3 σ H (fun y H' => Nats K H' y c.2.2)) (hx : Nats K H x c.1) : EvP (tTup (tCons t1 (tCons t2 (tCons t3 tNil)))) σ H (fun v H' => LcV K H' v c) := fun H1 e1 Q q =>
  do_tup (do_cons (h1 H1 e1 _ fun H2 e2 => do_cons (h2 H2 (e1.trans e2) _ fun H3 e3 => do_cons (h3 H3 ((e1.trans e2).trans e3) _ fun y H4 e4 hy => do_nil ⟨by show 3 ≤ sizeLine; decide, fun p np => q _ _ (((e2.trans e3).trans e4).trans (Ex.new np)) ⟨p, x, y, rfl, st_of upd_same, (hx.ex (((e1.trans e2).trans e3).trans e4)).ex (Ex.new np), hy.ex (Ex.new np)⟩⟩))))
theorem c_cells_by_greatest (T : Txt mg) (D : Df K mg "cells_by_greatest" s_cells_by_greatest ["signature", "one", "other"]) (c_cells_with_worths : Cl P w K mg base 2 "cells_with_worths" (sp_cells K)) (c_table_of : Cl P w K mg base 1 "table_of" (sp_table_of K)) : Cl P w K mg base 3 "cells_by_greatest" (sp_by_greatest K) := by
  refine cl_of (k := 2) D sc_cells_by_greatest (fun vs H Q E h => ?_) (fun f cdv A outer s H vs Q E hr h => ?_)
  · obtain ⟨p, p2, u, v, w, rfl, _⟩ := h
    rfl
  · obtain ⟨p, p2, u, v, w, rfl, hm, hw, ok, ok2, es, q⟩ := h
    refine ⟨_, (pss_cons (ps_setLc (i := 3) (own := [("number", 7)]) (g := (gName 7)) (by rfl) sc_cells_by_greatest.nd rfl rfl (sw_true rfl rfl rfl (by decide +kernel)) (pi_range1 (by rfl) T.z_range (pa_cons (pe_ix ix_tup (pv 1) pe_int (fun _ _ => rfl)) pa_nil)) (blkOk_by (own := [("number", 7)]) (N := ["signature", "one", "other", "told", "name", "args", "worth", "number"]) (sc := (defScope s_cells_by_greatest)) (by decide +kernel)) (fun _ _ _ _ _ => (pg_name (i := 7) sc_cells_by_greatest.nd rfl (.inl rfl))) (fun _ _ _ _ _ => pts_nil) (fun _ _ _ _ _ => (pe_lst pa_nil)))
      (pss_cons (ps_for PassesOwn.never (by rfl) (pi_list (pe_cl c_cells_with_worths hr (by first | decide | omega) (by rfl) (pa_cons (pv 0) (pa_cons (pv 1) pa_nil)))) (pg_tup (by rfl) (pgs_cons (pg_name (i := 4) sc_cells_by_greatest.nd rfl (.inl rfl)) (pgs_cons (pg_name (i := 5) sc_cells_by_greatest.nd rfl (.inl rfl)) (pgs_cons (pg_name (i := 6) sc_cells_by_greatest.nd rfl (.inl rfl)) pgs_nil))))
        (pss_one (ps_expr (pe_bm PySem.F.plainAttrs_list PySem.F.slot_list_append PySem.F.type_list_append mt_append (pe_ix ix_list (pv 3) (pe_callB (cr_maxT rfl hr) (by rfl) T.z_max (by decide +kernel) (pa_cons (pe_op op_catA (pv 5) (pe_tup (pa_cons (pv 6) pa_nil))) pa_nil)) (fun _ _ => rfl)) (pa_cons (pe_tup (pa_cons (pv 5) (pa_cons (pv 6) (pa_cons (pe_cl c_table_of hr (by first | decide | omega) (by rfl) (pa_cons (pv 0) (pa_cons (pe_ix ix_tup (pv 2) pe_int (fun _ _ => rfl)) (pa_cons (pv 4) pa_nil)))) pa_nil)))) pa_nil)))))
      (pss_one (ps_ret (pv 3))))), ?_⟩
    obtain ⟨z, tv, rfl, hZ, hT⟩ := id hm.2
    obtain ⟨z2, tv2, rfl, hZ2, hT2⟩ := id hw
    have n6 := ok.2.n6
    have hG2 : Sig K H u p.1 := hm.1
    refine do_set (do_lcNewR (n := p.2.1) (u := fun _ => []) (σ := [some u, some (.ref z), some (.ref z2), none, none, none, none, none]) (ea_cons (ev_op (ev_var rfl) ev_c (rv_ixT (K := K) hZ (atI_vi (k := 0) rfl))) ea_nil) (by omega) (fun _ => rfl) (fun i H1 e1 hi => el_lst ea_nil (Nat.zero_le _)) (fun a bs H1 e1 ll => ?_))
    have lb : bs.length = p.2.1 := by rw [ll.len, List.length_map, List.length_range]
    have cg1 : CgL K H H1 a bs (fun k => grp ((lcs p p2).take 0) k) p.2.1 := ⟨ll.at_, ll.new, lb, fun k b hb => by
      obtain ⟨ns, hns, q1, q2⟩ := paired_at ll.each hb
      refine ⟨q2, [], ?_, ?_⟩
      · rw [q1]
        have : ns = [] := by
          rw [List.getElem?_map] at hns
          cases hr : (List.range p.2.1)[k]? with
          | none => rw [hr] at hns; cases hns
          | some j => rw [hr] at hns; exact (Option.some.inj hns).symm
        rw [this]
        rfl
      · exact .nil, ll.nd, ll.ne⟩
    show tSeq _ _ _ [some u, some (.ref z), some (.ref z2), some (.ref a), none, none, none, none] H1
    refine q_forLs (do_evP (ep_callF p (ea_cons (ev_var rfl) (ea_cons (ev_var rfl) ea_nil)) (fun H2 e2 => ⟨⟨_, _, rfl, hm.1.ex (e1.trans e2), hm.2.ex (e1.trans e2)⟩, ok.1, ok.2⟩)) fun cv H2 e2 ⟨⟨c, cvs, hc, hl, pc⟩, nc⟩ => ⟨c, hc, ⟨cvs, sq_of hl⟩, ?_⟩)
    subst hc
    replace pc : Paired (CellV K H2) cvs (cwm p) := pc
    have nc1 := nc _ rfl
    have ca : c ≠ a := fun zz => by rw [zz, ll.at_] at nc1; cases nc1
    have cb : c ∉ bs := fun zz => by
      obtain ⟨_, _, q1, _⟩ := ll.some zz
      rw [q1] at nc1
      cases nc1
    have e02 := e1.trans e2
    refine qloops_list (K := K) (xs := cvs) (fun i σ H' => Ex H H' ∧ H' c = some (.lst cvs) ∧ Paired (CellV K H') cvs (cwm p) ∧ CgL K H H' a bs (fun k => grp ((lcs p p2).take i) k) p.2.1 ∧ ∃ y4 y5 y6, σ = [some u, some (.ref z), some (.ref z2), some (.ref a), y4, y5, y6, none]) ⟨e02, hl, pc, cg1.ex e2, none, none, none, rfl⟩ (fun i σ' H' _ ⟨_, hc', _⟩ => sq_of hc') (fun i x σ' H3 hx ⟨e3, hc3, pc3, cg3, y4, y5, y6, hσ⟩ => ?_) (fun σ' H3 ⟨e3, hc3, pc3, cg3, y4, y5, y6, hσ⟩ => ?_)
    · subst hσ
      obtain ⟨cl, hcl, b, xa, rfl, hb, hxa⟩ := paired_at pc3 hx
      obtain ⟨xaa, rfl, hxaa⟩ := id hxa
      have mem := List.mem_iff_getElem?.mpr ⟨i, hcl⟩
      obtain ⟨l2, ar, wr⟩ := ok.cells cl mem
      obtain ⟨j0, d, t, j, r, h1, h2, h3, h4, h5, h6⟩ := cws_mem.mp mem
      obtain ⟨il, et1, tb⟩ := tbOf_sig ok ok2 es h1
      have hlc : (lcs p p2)[i]? = some (cl.2.1, cl.2.2, tbOf p.1 p2.2.2 cl.1) := by
        unfold lcs
        rw [List.getElem?_map, hcl]
        rfl
      have gl : grt (cl.2.1, cl.2.2, tbOf p.1 p2.2.2 cl.1) < p.2.1 := grt_low ar wr
      generalize hk : grt (cl.2.1, cl.2.2, tbOf p.1 p2.2.2 cl.1) = k at gl
      obtain ⟨bk, hbk⟩ : ∃ bk, bs[k]? = some bk := ⟨_, List.getElem?_eq_getElem (by rw [cg3.len]; exact gl)⟩
      obtain ⟨nbk, ws, hws, pws⟩ := cg3.each k bk hbk
      refine ⟨b, _, rfl, hb, rfl, _, _, rfl, _, _, rfl, _, _, rfl, rfl, ?_⟩
      have hmx : Ev (tOp (rIxL K) (tVar 3) (tCB (rMaxT K) (tCons (tOp (rCatA K) (tVar 5) (tTup (tCons (tVar 6) tNil))) tNil))) [some u, some (.ref z), some (.ref z2), some (.ref a), some (.str cl.1), some (.ref xaa), some (vi cl.2.2), none] H3 (.ref bk) := by
        refine ev_op (ev_var rfl) (ev_maxP (K := K) (row := cl.2.1 ++ [cl.2.2]) (tv_nats (tv_is (tv_cat (tv_ev (ev_var rfl) hxaa) (tv_tup (xs := [vi cl.2.2]) (ea_cons (ev_var rfl) ea_nil) (by show 1 ≤ 100000; decide)) (by rw [List.length_map]; show cl.2.1.length + 1 ≤ 100000; omega)) (by rw [List.map_append]; rfl))) (by simp)) (rv_ixL (K := K) (sq_of cg3.at_) ?_)
        have e : need (cl.2.1 ++ [cl.2.2]) - 1 = k := hk
        rw [e]
        exact atI_vi (by rw [List.getElem?_map, hbk]; rfl)
      have lws : ws.length ≤ 144 := by
        rw [paired_len pws]
        have a := List.length_filter_le (fun c => decide (grt c = k)) ((lcs p p2).take i)
        have b : ((lcs p p2).take i).length ≤ 144 := by
          rw [List.length_take]
          unfold lcs
          rw [List.length_map]
          have := ok.few
          omega
        exact Nat.le_trans a b
      refine s_appP hws hmx (ep_lc (K := K) (c := (cl.2.1, cl.2.2, tbOf p.1 p2.2.2 cl.1)) (ev_var rfl) (ev_var rfl) (ep_call (p.1, p2.2.1, p2.2.2, cl.1, d.2) (ea_cons (ev_var rfl) (ea_cons (ev_op (ev_var rfl) ev_c (rv_ixT (K := K) (ex_t e3 hZ2) (atI_vi (k := 1) rfl))) (ea_cons (ev_var rfl) ea_nil))) (fun H4 e4 => ⟨⟨_, _, rfl, hG2.ex (e3.trans e4), hT2.ex (e3.trans e4)⟩, by rw [ok2.2.len, es], by show (cl.1, d.2) ∈ p.1; rw [h5]; exact List.mem_iff_getElem?.mpr ⟨j0, h1⟩⟩)) ⟨xaa, rfl, hxaa⟩) (by omega) fun v H4 e4 hv => ?_
      have hb4 := e4 _ _ hws
      have et : ET K H4 (upd H4 bk (.lst (ws ++ [v]))) := ET.refl.upd hb4
      have bkm := List.mem_iff_getElem?.mpr ⟨k, hbk⟩
      have nbH := nbk
      refine ⟨(e3.trans e4).mut nbH, by rw [upd_ne (fun zz => cb (by rw [zz]; exact bkm))]; exact e4 _ _ hc3, paired_imp (fun _ _ zz => CellV.et (ET.trans (Dw.Ex.et e4) et) zz) pc3, ⟨by rw [upd_ne (fun zz => cg3.ne (by rw [zz]; exact bkm))]; exact e4 _ _ cg3.at_, cg3.new, cg3.len, fun k' b' hb' => ?_, cg3.nd, cg3.ne⟩, _, _, _, rfl⟩
      obtain ⟨nb', ws', hws', pws'⟩ := cg3.each k' b' hb'
      refine ⟨nb', ?_⟩
      by_cases hkk : k' = k
      · subst hkk
        rw [hbk] at hb'
        cases Option.some.inj hb'
        rw [hws] at hws'
        cases HO.lst.inj (Option.some.inj hws')
        refine ⟨ws ++ [v], upd_same, ?_⟩
        unfold grp
        rw [List.take_add_one, hlc, List.filter_append]
        show Paired _ _ (_ ++ [(cl.2.1, cl.2.2, tbOf p.1 p2.2.2 cl.1)].filter _)
        rw [List.filter_cons_of_pos (by rw [hk]; exact decide_eq_true rfl), List.filter_nil]
        exact paired_snoc' (R := LcV K (upd H4 bk (.lst (ws ++ [v])))) (x := v) (y := (cl.2.1, cl.2.2, tbOf p.1 p2.2.2 cl.1)) (LcV.et et hv) (paired_imp (fun _ _ zz => LcV.et (ET.trans (Dw.Ex.et e4) et) zz) pws')
      · have nbb : b' ≠ bk := fun zz => hkk (by
          obtain ⟨i1, e1'⟩ := List.getElem?_eq_some_iff.mp hb'
          obtain ⟨i2, e2'⟩ := List.getElem?_eq_some_iff.mp hbk
          exact (List.getElem_inj cg3.nd).mp (e1'.trans (zz.trans e2'.symm)))
        refine ⟨ws', by rw [upd_ne nbb]; exact e4 _ _ hws', ?_⟩
        unfold grp
        rw [List.take_add_one, hlc, List.filter_append]
        show Paired _ _ (_ ++ [(cl.2.1, cl.2.2, tbOf p.1 p2.2.2 cl.1)].filter _)
        rw [List.filter_cons_of_neg (by rw [hk, decide_eq_true_iff]; exact fun zz => hkk zz.symm), List.filter_nil, List.append_nil]
        exact paired_imp (fun _ _ zz => LcV.et (ET.trans (Dw.Ex.et e4) et) zz) pws'
    · subst hσ
      have full : (lcs p p2).take cvs.length = lcs p p2 := List.take_of_length_le (by unfold lcs; rw [List.length_map, paired_len pc3]; exact Nat.le_refl _)
      rw [full] at cg3
      exact s_ret (ev_var rfl) fun H4 e4 => q a bs H4 (e3.trans e4) (cg3.ex e4)
end
end K73
end
section
namespace K73
open PySem PySem.Spec PyProof.Rows L2 Evl RZ Dw M20 M25 CL LD
section
variable {P : Program} {w : World} {K : PySem.W.Frag} {mg : Str → Option Value} {base : Heap}
def sp_leads (K : PySem.W.Frag) : Sp := fun vs H Q _ => ∃ (p p2 : MArg) (u v w : V), vs = [u, v, w] ∧ MA K H u v p ∧ Mdl K H w p2.2.1 p2.2.2 ∧ MOk p ∧ MOk p2 ∧ p2.1 = p.1 ∧ (∀ k, k < p.2.1 → (lvl p2.2.1 (lcs p p2) k).length ≤ 1600) ∧ ∀ a as H', Ex H H' → LLs H H' a as (lvl p2.2.1 (lcs p p2) p.2.1) → Q (.ref a) H'
theorem lvl_low {n2 : Nat} {cs : List LC} {k : Nat} {f : List Nat} (h : f ∈ lvl n2 cs k) : f.length = k ∧ ∀ y ∈ f, y < n2 := by
  rw [lvl_eq] at h
  exact rows_of (List.mem_filter.mp h).1
theorem c_leads (T : Txt mg) (D : Df K mg "leads" s_leads ["signature", "one", "other"]) (c_need_two_models : Cl P w K mg base 8 "need_two_models" (sp_need_two K)) (c_cells_by_greatest : Cl P w K mg base 3 "cells_by_greatest" (sp_by_greatest K)) (c_leads_on : Cl P w K mg base 2 "leads_on" (sp_leads_on K)) : Cl P w K mg base 9 "leads" (sp_leads K) := by
  refine cl_of (k := 8) D sc_leads (fun vs H Q E h => ?_) (fun f cdv A outer s H vs Q E hr h => ?_)
  · obtain ⟨p, p2, u, v, w, rfl, _⟩ := h
    rfl
  · obtain ⟨p, p2, u, v, w, rfl, hm, hw, ok, ok2, es, few, q⟩ := h
    refine ⟨_, (pss_cons (ps_expr (pe_cl c_need_two_models hr (by first | decide | omega) (by rfl) (pa_cons (pv 0) (pa_cons (pv 1) (pa_cons (pv 2) pa_nil)))))
      (pss_cons (ps_set (i := 3) sc_leads.nd rfl (.inr rfl) (pe_ix ix_tup (pv 2) pe_int (fun _ _ => rfl)))
      (pss_cons (ps_set (i := 4) sc_leads.nd rfl (.inl rfl) (pe_lst (pa_cons (pe_lst pa_nil) pa_nil)))
      (pss_cons (ps_for PassesOwn.never (by rfl) (pi_list (pe_cl c_cells_by_greatest hr (by first | decide | omega) (by rfl) (pa_cons (pv 0) (pa_cons (pv 1) (pa_cons (pv 2) pa_nil))))) (pg_name (i := 5) sc_leads.nd rfl (.inr rfl))
        (pss_cons (ps_setLc2 (i := 6) (own := [("images", 7), ("number", 8)]) (g := (gName 7)) (g1 := (gName 8)) (vs1 := [8]) (by rfl) sc_leads.nd rfl rfl (sw_true rfl rfl rfl (by decide +kernel)) (pi_list (pv 4)) (blkOk_by (own := [("images", 7), ("number", 8)]) (N := ["signature", "one", "other", "size", "begins", "cells", "longer", "images", "number"]) (sc := (defScope s_leads)) (by decide +kernel)) (by decide) (fun _ _ _ _ _ => (pg_name (i := 7) sc_leads.nd rfl (.inl rfl))) (fun _ _ _ _ _ => pts_nil) (fun _ _ _ _ _ => (pi_range1 (by rfl) T.z_range (pa_cons (pv 3) pa_nil))) (fun _ _ _ _ _ => (pg_name (i := 8) sc_leads.nd rfl (.inl rfl))) (fun _ _ _ _ _ => pts_nil) (fun _ _ _ _ _ => (pe_op op_cat (pv 7) (pe_lst (pa_cons (pv 8) pa_nil)))))
        (pss_one (ps_setLc (i := 4) (own := [("images", 7)]) (g := (gName 7)) (by rfl) sc_leads.nd rfl rfl (sw_true rfl rfl rfl (by decide +kernel)) (pi_list (pv 6)) (blkOk_by (own := [("images", 7)]) (N := ["signature", "one", "other", "size", "begins", "cells", "longer", "images", "number"]) (sc := (defScope s_leads)) (by decide +kernel)) (fun _ _ _ _ _ => (pg_name (i := 7) sc_leads.nd rfl (.inl rfl))) (fun _ _ _ _ _ => (pts_one (pt_val (pe_cl c_leads_on hr (by first | decide | omega) (by rfl) (pa_cons (pv 5) (pa_cons (pv 3) (pa_cons (pv 7) pa_nil))))))) (fun _ _ _ _ _ => (pv 7))))))
      (pss_one (ps_ret (pv 4))))))), ?_⟩
    obtain ⟨z2, tv2, rfl, hZ2, hT2⟩ := id hw
    have n6 := ok.2.n6
    have n26 := ok2.2.n6
    refine q_drop (v := .non) (ev_callV (p, p2) (ea_cons (ev_var rfl) (ea_cons (ev_var rfl) (ea_cons (ev_var rfl) ea_nil))) (fun H1 e1 => ⟨⟨_, _, _, rfl, hm.ex e1, hw.ex e1⟩, ok, ok2, es⟩) (fun _ _ p => p)) fun H1 e1 => ?_
    refine q_asg (v := vi p2.2.1) (ev_op (ev_var rfl) ev_c (rv_ixT (K := K) (ex_t e1 hZ2) (atI_vi (k := 0) rfl))) fun H2 e2 => ?_
    have e02 := e1.trans e2
    refine do_set (do_lst (do_cons (do_lst (do_nil ⟨Nat.zero_le _, fun r nr => do_nil ⟨by show 1 ≤ sizeLine; decide, fun f0 nf0 => ?_⟩⟩))))
    have e3 : Ex H2 (upd (upd H2 r (.lst [])) f0 (.lst [.ref r])) := (Ex.new nr).trans (Ex.new nf0)
    have rf : r ≠ f0 := fun z => by rw [z, upd_same] at nf0; cases nf0
    have ll1 : LLs H2 (upd (upd H2 r (.lst [])) f0 (.lst [.ref r])) f0 [r] (lvl p2.2.1 (lcs p p2) 0) := ⟨upd_same, by
      have := nf0
      rw [upd_ne (Ne.symm rf)] at this
      exact this, .cons ⟨by rw [upd_ne rf, upd_same]; rfl, nr⟩ .nil, List.pairwise_singleton _ _, fun z => rf (List.mem_singleton.mp z).symm⟩
    replace ll1 := ll1.low e02
    generalize upd (upd H2 r (.lst [])) f0 (.lst [.ref r]) = H3 at *
    have e03 := e02.trans e3
    show tSeq _ _ _ [some u, some v, some (.ref z2), some (vi p2.2.1), some (.ref f0), none, none, none, none] H3
    refine q_forLs (ea_cons (ev_var rfl) (ea_cons (ev_var rfl) (ea_cons (ev_var rfl) ea_nil)) H3 (Ex.refl _) _ fun H4 e4 => ⟨p, p2, u, v, .ref z2, rfl, hm.ex (e03.trans e4), hw.ex (e03.trans e4), ok, ok2, es, fun a bs H5 e5 cg => ⟨a, rfl, ⟨_, sq_of cg.at_⟩, ?_⟩⟩)
    have e35 := e4.trans e5
    refine qloops_list (K := K) (xs := bs.map V.ref) (fun k σ H' => Ex H5 H' ∧ ∃ b as y5 y6, LLs H H' b as (lvl p2.2.1 (lcs p p2) k) ∧ σ = [some u, some v, some (.ref z2), some (vi p2.2.1), some (.ref b), y5, y6, none, none]) ⟨Ex.refl _, f0, [r], none, none, ll1.ex e35, rfl⟩ (fun k σ' H' _ ⟨e, _⟩ => sq_of (e _ _ cg.at_)) (fun k x σ' H6 hx ⟨e6, b, as, y5, y6, ll, hσ⟩ => ?_) (fun σ' H6 ⟨e6, b, as, y5, y6, ll, hσ⟩ => ?_)
    · subst hσ
      rw [List.getElem?_map] at hx
      cases hbk : bs[k]? with
      | none => rw [hbk] at hx; cases hx
      | some bk =>
      rw [hbk] at hx
      cases Option.some.inj hx
      obtain ⟨_, ws, hws, pws⟩ := cg.each k bk hbk
      have hk : k < p.2.1 := by rw [← cg.len]; exact (List.getElem?_eq_some_iff.mp hbk).1
      have fk := few k hk
      have la := ll.len
      have e06 : Ex H H6 := e03.trans (e35.trans e6)
      show tSeq _ _ _ [some u, some v, some (.ref z2), some (vi p2.2.1), some (.ref b), some (.ref bk), y6, none, none] H6
      refine do_set (do_lc2New (K := K) (a := b) (xs := as.map V.ref) (L := lvl p2.2.1 (lcs p p2) k) (u := fun ns x => ns ++ [x]) (m := p2.2.1) (ev_var rfl) (sq_of ll.at_) (by rw [List.length_map, la]) (fun x H7 e7 => ea_cons (ev_var rfl) ea_nil) (by rw [List.length_map]; omega) (by omega) (fun _ => rfl) (fun _ _ => rfl) (fun i x ns kk H7 e7 hx hns hkk => ?_) (fun b2 as2 H7 e7 l2 => ?_))
      · rw [List.getElem?_map] at hx
        cases hb : as[i]? with
        | none => rw [hb] at hx; cases hx
        | some bb =>
          rw [hb] at hx
          cases Option.some.inj hx
          obtain ⟨ms, hms, qq, _⟩ := paired_at ll.each hb
          rw [hms] at hns
          cases Option.some.inj hns
          show EvL _ _ H7 ((ns ++ [kk]).map vi)
          rw [List.map_append]
          have lm := (lvl_low (List.mem_iff_getElem?.mpr ⟨i, hms⟩)).1
          intro H8 e8 Q' q'
          refine do_op (do_ev (v := .ref bb) (ev_var rfl) fun H9 e9 => do_evL (el_lst (ea_cons (ev_var rfl) ea_nil) (by show 1 ≤ 100000; decide)) fun r2 H10 nr2 e10 hr2 => ?_)
          exact ⟨bb, r2, ns.map vi, [vi kk], rfl, rfl, (e7.trans (e8.trans (e9.trans e10))) _ _ qq, hr2, by rw [List.length_map]; exact sz_of (by show ns.length + 1 ≤ 100000; omega), fun l nl => q' l _ (fresh_back (e9.trans e10) nl) ((e9.trans e10).trans (Ex.new nl)) upd_same⟩
      · have e07 := e06.trans e7
        have lfl : ((lvl p2.2.1 (lcs p p2) k).flatMap fun ns => (List.range p2.2.1).map fun x => ns ++ [x]).length ≤ 1600 * 6 := by
          have : ∀ L : List (List Nat), (L.flatMap fun ns => (List.range p2.2.1).map fun x => ns ++ [x]).length = L.length * p2.2.1 := fun L => by
            induction L with
            | nil => simp
            | cons r L ih => rw [List.flatMap_cons, List.length_append, ih, List.length_map, List.length_range, List.length_cons, Nat.add_mul, Nat.one_mul, Nat.add_comm]
          rw [this]
          exact Nat.mul_le_mul fk n26
        refine do_asg (do_lcFit (K := K) (f := allOk p2.2.1 (grp (lcs p p2) k)) (ev_var rfl) (l2.low e06) e07 (by omega) (fun _ => rfl) (fun _ => rfl) (fun c ns H8 e8 hns hc => ?_) (fun b3 as3 H8 e8 _ l3 => ?_))
        · obtain ⟨f1, hf1, h2⟩ := List.mem_flatMap.mp hns
          obtain ⟨x, hx2, rfl⟩ := List.mem_map.mp h2
          obtain ⟨lf, lo⟩ := lvl_low hf1
          have e58 := e6.trans (e7.trans e8)
          refine et_val (ev_callV (v := .bl (allOk p2.2.1 (grp (lcs p p2) k) (f1 ++ [x]))) (grp (lcs p p2) k, p2.2.1, f1 ++ [x]) (ea_cons (ev_var rfl) (ea_cons (ev_var rfl) (ea_cons (ev_var rfl) ea_nil))) (fun H9 e9 => ⟨⟨_, ws, _, rfl, (e58.trans e9) _ _ hws, paired_imp (fun _ _ zz => LcV.et (Dw.Ex.et (e58.trans e9)) zz) pws, sq_of (e9 _ _ hc)⟩, n26, fun y hy => ?_, fun c' hc' => ?_⟩) (fun _ _ z => z))
          · rcases List.mem_append.mp hy with zz | zz
            · exact lo y zz
            · rw [List.mem_singleton.mp zz]
              exact List.mem_range.mp hx2
          · have hm := List.mem_filter.mp hc'
            have gk := of_decide_eq_true hm.2
            obtain ⟨l2', _, _, tb'⟩ := lcs_gd ok ok2 es (f := List.replicate p.2.1 0) (by simp) c' hm.1
            exact ⟨l2', fun y hy => by
              have := grt_lt (c := c') (.inl hy)
              rw [List.length_append, lf]
              show y < k + 1
              omega, by
              have := grt_lt (c := c') (.inr rfl)
              rw [List.length_append, lf]
              show _ < k + 1
              omega, tb'⟩
        · exact ⟨e6.trans (e7.trans e8), b3, as3, _, _, l3, rfl⟩
    · subst hσ
      rw [List.length_map, cg.len] at ll
      exact s_ret (ev_var rfl) fun H7 e7 => q b as H7 (e03.trans (e35.trans (e6.trans e7))) (ll.ex e7)
end
end K73
end
section
namespace K73
open PySem PySem.Spec PyProof.Rows L2 Evl RZ Dw M20 M25 CL LD
section
variable {P : Program} {w : World} {K : PySem.W.Frag} {mg : Str → Option Value} {base : Heap}
def sp_place_T (K : PySem.W.Frag) : Sp := spX (fun (p : Nat × List Nat) vs H => (∃ v, vs = [vi p.1, v] ∧ Nats K H v p.2) ∧ p.1 ≤ 6 ∧ p.2.length ≤ 2 ∧ ∀ k ∈ p.2, k < p.1) (fun p v _ => v = vi (plc p.1 p.2))
theorem c_place_of_rowT (T : Txt mg) (D : Df K mg "place_of_row" s_place_of_row ["size", "row"]) : Cl P w K mg base 1 "place_of_row" (sp_place_T K) := by
  refine cl_of (k := 0) D sc_place_of_row (fun vs H Q E h => ?_) (fun f cdv A outer s H vs Q E hr h => ?_)
  · obtain ⟨p, ⟨⟨l, rfl, _⟩, _⟩, _⟩ := h
    rfl
  · obtain ⟨⟨n, ns⟩, ⟨⟨v, rfl, ⟨l, rfl, hl⟩⟩, n6, l2, low⟩, q⟩ := h
    refine ⟨_, (pss_cons (ps_set (i := 2) sc_place_of_row.nd rfl (.inl rfl) pe_int)
      (pss_cons (ps_for PassesOwn.never (by rfl) (pi_tup (pv 1)) (pg_name (i := 3) sc_place_of_row.nd rfl (.inl rfl))
        (pss_one (ps_set (i := 2) sc_place_of_row.nd rfl (.inl rfl) (pe_op op_add (pe_op op_mul (pv 2) (pv 0)) (pv 3)))))
      (pss_one (ps_ret (pv 2))))), ?_⟩
    replace hl : SqT K H l (ns.map vi) := hl
    replace n6 : n ≤ 6 := n6
    replace l2 : ns.length ≤ 2 := l2
    replace low : ∀ k ∈ ns, k < n := low
    refine q_asg (v := vi 0) ev_c fun H1 e1 => ?_
    refine q_forT (K := K) (ev_var rfl) (ex_t e1 hl) (fun i σ H' => Ex H H' ∧ ∃ y : Option V, σ = [some (vi n), some (.ref l), some (vi (plc n (ns.take i))), y]) (fun H2 e2 => ⟨e1.trans e2, none, rfl⟩) (fun i σ H' _ ⟨e, _⟩ => ex_t e hl) (fun i x σ H2 hx hP => ?_) (fun σ H2 hP => ?_)
    · obtain ⟨e2, y, hσ⟩ := hP
      subst hσ
      rw [List.getElem?_map] at hx
      cases hk : ns[i]? with
      | none =>
        rw [hk] at hx
        cases hx
      | some k =>
        rw [hk] at hx
        cases Option.some.inj hx
        have small : plc n (ns.take i) ≤ 1000 := by
          have a := plc_low (n := n) (ns := ns.take i) (fun k h => low k (List.mem_of_mem_take h)) (by rw [List.length_take]; omega)
          have b := pow_36 (p := (ns.take i).length) n6 (by rw [List.length_take]; omega)
          omega
        refine s_asg (v := vi (plc n (ns.take (i + 1)))) (ev_is (ev_addN (ev_mulN (ev_var rfl) (ev_var rfl) small (by omega)) (ev_var rfl)) (by rw [plc_take hk])) fun H3 e3 => ?_
        exact ⟨e2.trans e3, _, rfl⟩
    · obtain ⟨e2, y, hσ⟩ := hP
      subst hσ
      rw [List.length_map, List.take_length]
      exact s_ret (ev_var rfl) fun H3 e3 => q _ H3 (e2.trans e3) rfl
/-! ### the cells in their order -/
def ordc (n : Nat) (sg : List (Str × Nat)) : List (Str × List Nat) := (List.range (n + 1)).flatMap fun t => (allc n sg).filter fun c => decide (need c.2 = t)
def ordT (n : Nat) (sg : List (Str × Nat)) (t : Nat) : List (Str × List Nat) := (allc n sg).filter fun c => decide (need c.2 = t)
theorem ord_few {n : Nat} {sg : List (Str × Nat)} (n6 : n ≤ 6) (so : SigOk sg) (t : Nat) : ((List.range t).flatMap fun t => ordT n sg t).length ≤ 144 := by
  have h := allc_few n6 so sg.length
  rw [List.take_of_length_le (Nat.le_refl _)] at h
  refine Nat.le_trans ?_ h
  rw [show ((List.range t).flatMap fun t => ordT n sg t) = ((List.range t).flatMap fun t => (allc n sg).filter fun c => decide (need c.2 = t)) from rfl, (levels_perm (fun c : Str × List Nat => need c.2) (allc n sg) t).length_eq]
  exact List.length_filter_le _ _
def sp_order (K : PySem.W.Frag) : Sp := fun vs H Q _ => ∃ (sg : List (Str × Nat)) (n : Nat) (u : V), vs = [u, vi n] ∧ Sig K H u sg ∧ SigOk sg ∧ n ≤ 6 ∧ ∀ a vs' H', Ex H H' → H a = none → H' a = some (.lst vs') → Paired (ArgV K H') vs' (ordc n sg) → Q (.ref a) H'
theorem c_cells_in_order (T : Txt mg) (D : Df K mg "cells_in_order" s_cells_in_order ["signature", "size"]) (c_rows_below : Cl P w K mg base 1 "rows_below" (sp_rows_below K)) : Cl P w K mg base 2 "cells_in_order" (sp_order K) := by
  refine cl_of (k := 1) D sc_cells_in_order (fun vs H Q E h => ?_) (fun f cdv A outer s H vs Q E hr h => ?_)
  · obtain ⟨sg, n, u, rfl, _⟩ := h
    rfl
  · obtain ⟨sg, n, u, rfl, hG, sok, n6, q⟩ := h
    refine ⟨_, (pss_cons (ps_set (i := 2) sc_cells_in_order.nd rfl (.inl rfl) (pe_lst pa_nil))
      (pss_cons (ps_for PassesOwn.never (by rfl) (pi_range2 (by rfl) T.z_range (pa_cons (pe_un un_neg pe_int) (pa_cons (pv 1) pa_nil))) (pg_name (i := 3) sc_cells_in_order.nd rfl (.inl rfl))
        (pss_one (ps_for PassesOwn.never (by rfl) (pi_tup (pv 0)) (pg_tup (by rfl) (pgs_cons (pg_name (i := 4) sc_cells_in_order.nd rfl (.inl rfl)) (pgs_cons (pg_name (i := 5) sc_cells_in_order.nd rfl (.inl rfl)) pgs_nil)))
          (pss_one (ps_for PassesOwn.never (by rfl) (pi_list (pe_cl c_rows_below hr (by first | decide | omega) (by rfl) (pa_cons (pv 1) (pa_cons (pv 5) pa_nil)))) (pg_name (i := 6) sc_cells_in_order.nd rfl (.inl rfl))
            (pss_one (ps_if (pt_cmpR op_eq (pe_callBK (cr_maxD rfl hr) (by rfl) T.z_max (by decide +kernel) (pa_cons (pv 6) pa_nil) (pk_cons (pe_un un_neg pe_int) pk_nil)) (pv 3) (nomark _))
              (pss_one (ps_expr (pe_bm PySem.F.plainAttrs_list PySem.F.slot_list_append PySem.F.type_list_append mt_append (pv 2) (pa_cons (pe_tup (pa_cons (pv 4) (pa_cons (pv 6) pa_nil))) pa_nil))))
              pss_nil)))))))
      (pss_one (ps_ret (pv 2))))), ?_⟩
    obtain ⟨a, us, rfl, hS, hP⟩ := id hG
    have lS : us.length = sg.length := paired_len hP
    refine q_asgL (el_lst ea_nil (Nat.zero_le _)) fun m H1 nm e1 hm => ?_
    refine q_forR2s (ea_cons (ev_un ev_c ru_neg) (ea_cons (ev_var rfl) ea_nil) H1 (Ex.refl _) _ fun H2 e2 => ⟨-1, (n : Int), rfl, ⟨by decide, by decide, by omega, by omega⟩, ?_⟩)
    have en : ((n : Int) - (-1)).toNat = n + 1 := by omega
    rw [en]
    have e02 := e1.trans e2
    refine qloops_rng (fun t σ H' => Ex H H' ∧ (∃ ws, H' m = some (.lst ws) ∧ Paired (ArgV K H') ws ((List.range t).flatMap fun t => ordT n sg t)) ∧ ∃ y3 y4 y5 y6, σ = [some (.ref a), some (vi n), some (.ref m), y3, y4, y5, y6])
      ⟨e02, ⟨[], e2 _ _ hm, .nil⟩, none, none, none, none, rfl⟩ (fun t σ' H3 ht ⟨e3, ⟨ws, hws, pws⟩, y3, y4, y5, y6, hσ⟩ => ?_) (fun σ' H3 ⟨e3, ⟨ws, hws, pws⟩, y3, y4, y5, y6, hσ⟩ => ?_)
    · subst hσ
      have f0 := ord_few n6 sok t
      refine do_name ?_
      show tFor _ _ _ _ [some (.ref a), some (vi n), some (.ref m), some (.int (-1 + (t : Int))), y4, y5, y6] H3
      refine s_forT (K := K) (ev_var rfl) (ex_t e3 hS) (fun i σ H' => Ex H H' ∧ (∃ ws, H' m = some (.lst ws) ∧ Paired (ArgV K H') ws (((List.range t).flatMap fun t => ordT n sg t) ++ ordT n (sg.take i) t)) ∧ ∃ y4 y5 y6, σ = [some (.ref a), some (vi n), some (.ref m), some (.int (-1 + (t : Int))), y4, y5, y6])
        (fun H4 e4 => ⟨e3.trans e4, ⟨ws, e4 _ _ hws, by
          have : ordT n (sg.take 0) t = [] := rfl
          rw [this, List.append_nil]
          exact paired_imp (fun _ _ z => ArgV.et (Dw.Ex.et e4) z) pws⟩, y4, y5, y6, rfl⟩) (fun i σ' H' _ ⟨e, _⟩ => ex_t e hS) (fun i x σ' H4 hx ⟨e4, ⟨ws4, hws4, pws4⟩, y4, y5, y6, hσ⟩ => ?_) (fun σ' H4 ⟨e4, ⟨ws4, hws4, pws4⟩, y4, y5, y6, hσ⟩ => ?_)
      · subst hσ
        obtain ⟨d, hd, b, rfl, hb⟩ := paired_at hP hx
        have mem := List.mem_iff_getElem?.mpr ⟨i, hd⟩
        have p2 := sok.pl d mem
        have fi : (ordT n (sg.take i) t).length ≤ 144 := Nat.le_trans (List.length_filter_le _ _) (allc_few n6 sok i)
        refine ⟨b, _, rfl, ex_t e4 hb, rfl, _, _, rfl, _, _, rfl, rfl, ?_⟩
        refine s_forLs (do_evP (ep_callF (n, d.2) (ea_cons (ev_var rfl) (ea_cons (ev_var rfl) ea_nil)) (fun _ _ => ⟨rfl, n6, p2⟩)) fun rv H5 e5 ⟨⟨ra, rvs, hra, hrl, prs⟩, nra⟩ => ⟨ra, hra, ⟨rvs, sq_of hrl⟩, ?_⟩)
        subst hra
        replace prs : Paired (Nats K H5) rvs (rows n d.2) := prs
        have lrv := paired_len prs
        rw [rows_len'] at lrv
        have big := pow_36 n6 p2
        have ram : ra ≠ m := fun zz => by have := nra _ rfl; rw [zz, hws4] at this; cases this
        refine loops_list (K := K) (xs := rvs) (fun j σ H' => Ex H H' ∧ H' ra = some (.lst rvs) ∧ Paired (Nats K H') rvs (rows n d.2) ∧ (∃ ws2, H' m = some (.lst ws2) ∧ Paired (ArgV K H') ws2 (((List.range t).flatMap fun t => ordT n sg t) ++ ordT n (sg.take i) t ++ (((rows n d.2).take j).map fun r => (d.1, r)).filter fun c => decide (need c.2 = t)) ∧ ws2.length ≤ 288 + j) ∧ ∃ y6, σ = [some (.ref a), some (vi n), some (.ref m), some (.int (-1 + (t : Int))), some (.str d.1), some (vi d.2), y6])
          ⟨e4.trans e5, hrl, prs, ⟨ws4, e5 _ _ hws4, by
            rw [List.take_zero]
            show Paired _ _ (_ ++ [])
            rw [List.append_nil]
            exact paired_imp (fun _ _ z => ArgV.et (Dw.Ex.et e5) z) pws4, by rw [paired_len pws4, List.length_append]; omega⟩, _, rfl⟩ (fun j σ' H' _ ⟨_, hr, _⟩ => sq_of hr) (fun j y σ' H6 hy ⟨e6, hr6, pr6, ⟨ws2, hw2, pw2, lw2⟩, y6', hσ⟩ => ?_) (fun σ' H6 ⟨e6, hr6, pr6, ⟨ws2, hw2, pw2, lw2⟩, y6', hσ⟩ => ?_)
        · subst hσ
          obtain ⟨row, hrow, xa, rfl, hxa⟩ := paired_at pr6 hy
          have hj := (List.getElem?_eq_some_iff.mp hy).1
          have snoc : (((rows n d.2).take (j + 1)).map fun r => (d.1, r)).filter (fun c => decide (need c.2 = t)) = ((((rows n d.2).take j).map fun r => (d.1, r)).filter fun c => decide (need c.2 = t)) ++ ([(d.1, row)].filter fun c => decide (need c.2 = t)) := by
            rw [List.take_add_one, hrow, List.map_append, List.filter_append]
            rfl
          refine do_name ?_
          show tIfS _ _ _ _ [some (.ref a), some (vi n), some (.ref m), some (.int (-1 + (t : Int))), some (.str d.1), some (vi d.2), some (.ref xa)] H6
          refine s_when (b := decide (V.int (((need row : Nat) : Int) - 1) = V.int (-1 + (t : Int)))) (et_test (ev_op (ev_maxD (K := K) (ea_cons (ev_var rfl) ea_nil) (ea_cons (ev_un ev_c ru_neg) ea_nil) hxa) (ev_var rfl) (rv_eq rfl))) (fun hb2 H7 e7 => ?_) (fun hb2 H7 e7 => ?_)
          · have hnt : need row = t := by
              have := V.int.inj (of_decide_eq_true hb2)
              omega
            have hm7 := e7 _ _ hw2
            refine s_appP hm7 (ev_var rfl) (tv_tup (K := K) (xs := [.str d.1, .ref xa]) (ea_cons (ev_var rfl) (ea_cons (ev_var rfl) ea_nil)) (by show 2 ≤ 100000; decide)) (by omega) fun v H8 e8 ⟨vb, hv, hvb⟩ => ?_
            subst hv
            have hm8 := e8 _ _ hm7
            have et : ET K H8 (upd H8 m (.lst (ws2 ++ [.ref vb]))) := ET.refl.upd hm8
            refine ⟨(e6.trans (e7.trans e8)).mut nm, by rw [upd_ne ram]; exact (e7.trans e8) _ _ hr6, paired_imp (fun _ _ z => (z.ex (e7.trans e8)).et et) pr6, ⟨ws2 ++ [.ref vb], upd_same, ?_, by rw [List.length_append]; show _ + 1 ≤ _; omega⟩, _, rfl⟩
            rw [snoc, List.filter_cons_of_pos (by rw [hnt]; exact decide_eq_true rfl), List.filter_nil, ← List.append_assoc]
            exact paired_snoc' (R := ArgV K (upd H8 m (.lst (ws2 ++ [.ref vb])))) (x := .ref vb) (y := (d.1, row)) ⟨vb, .ref xa, rfl, et _ _ hvb, xa, rfl, et _ _ (ex_t (e7.trans e8) hxa)⟩ (paired_imp (fun _ _ z => ArgV.et (ET.trans (Dw.Ex.et (e7.trans e8)) et) z) pw2)
          · have hnt : need row ≠ t := fun zz => by
              rw [zz] at hb2
              have e : ((t : Nat) : Int) - 1 = -1 + (t : Int) := by omega
              rw [e, decide_eq_true rfl] at hb2
              cases hb2
            refine ⟨e6.trans e7, e7 _ _ hr6, paired_imp (fun _ _ z => z.ex e7) pr6, ⟨ws2, e7 _ _ hw2, ?_, by omega⟩, _, rfl⟩
            rw [snoc, List.filter_cons_of_neg (by rw [decide_eq_true_iff]; exact hnt), List.filter_nil, List.append_nil]
            exact paired_imp (fun _ _ z => ArgV.et (Dw.Ex.et e7) z) pw2
        · subst hσ
          refine ⟨e6, ⟨ws2, hw2, ?_⟩, _, _, _, rfl⟩
          rw [show (rows n d.2).take rvs.length = rows n d.2 from List.take_of_length_le (by rw [lrv, rows_len']; exact Nat.le_refl _), List.append_assoc] at pw2
          have : ordT n (sg.take (i + 1)) t = ordT n (sg.take i) t ++ ((rows n d.2).map fun r => (d.1, r)).filter fun c => decide (need c.2 = t) := by
            unfold ordT allc
            rw [List.take_add_one, hd, List.flatMap_append, List.filter_append]
            simp
          rw [this]
          exact pw2
      · subst hσ
        refine ⟨e4, ⟨ws4, hws4, ?_⟩, _, _, _, _, rfl⟩
        rw [lS, List.take_of_length_le (Nat.le_refl _)] at pws4
        rw [List.range_succ, List.flatMap_append, List.flatMap_singleton]
        exact pws4
    · subst hσ
      exact s_ret (ev_var rfl) fun H4 e4 => q m ws H4 (e3.trans e4) nm (e4 _ _ hws) (paired_imp (fun _ _ z => ArgV.et (Dw.Ex.et e4) z) pws)
/-! ### the first cell at which images are no lead -/
def lcOf (p p2 : MArg) (c : Str × List Nat) : LC := (c.2, g (tbOf p.1 p.2.2 c.1) (plc p.2.1 c.2), tbOf p.1 p2.2.2 c.1)
def fod (p p2 : MArg) (f : List Nat) : Option (Str × List Nat) := (ordc p.2.1 p.1).find? fun c => !okC p2.2.1 f (lcOf p p2 c)
def OddV (K : PySem.W.Frag) (H : Hp) (v : V) : Option (Str × List Nat) → Prop
  | none => v = .non
  | some c => ArgV K H v c
def sp_first_odd_lead (K : PySem.W.Frag) : Sp := spX (fun (p : MArg × MArg × List Nat) vs H => (∃ u v w a, vs = [u, v, w, .ref a] ∧ MA K H u v p.1 ∧ Mdl K H w p.2.1.2.1 p.2.1.2.2 ∧ SqL K H a (p.2.2.map vi)) ∧ MOk p.1 ∧ MOk p.2.1 ∧ p.2.1.1 = p.1.1 ∧ p.2.2.length = p.1.2.1 ∧ ∀ y ∈ p.2.2, y < p.2.1.2.1) (fun p v H => OddV K H v (fod p.1 p.2.1 p.2.2))
theorem ordc_mem {n : Nat} {sg : List (Str × Nat)} {c : Str × List Nat} (h : c ∈ ordc n sg) : c ∈ allc n sg := by
  unfold ordc at h
  obtain ⟨t, _, hc⟩ := List.mem_flatMap.mp h
  exact (List.mem_filter.mp hc).1
theorem lcOf_gd {p p2 : MArg} (ok : MOk p) (ok2 : MOk p2) (es : p2.1 = p.1) {f : List Nat} (lf : f.length = p.2.1) {c : Str × List Nat} (hc : c ∈ allc p.2.1 p.1) : ∃ (d : Str × Nat) (i : Nat), p.1[i]? = some d ∧ c.1 = d.1 ∧ d.2 ≤ 2 ∧ c.2.length = d.2 ∧ (∀ x ∈ c.2, x < p.2.1) ∧ (∃ h : i < p.2.2.length, tbOf p.1 p.2.2 c.1 = p.2.2[i]) ∧ plc p.2.1 c.2 < (tbOf p.1 p.2.2 c.1).length ∧ GdC p2.2.1 f (lcOf p p2 c) := by
  obtain ⟨i, d, hi, hcd, hr⟩ := sig_at ok hc
  have p2' := ok.1.pl d (List.mem_iff_getElem?.mpr ⟨i, hi⟩)
  obtain ⟨lr, rl⟩ := rows_of hr
  obtain ⟨il, e1, tb⟩ := tbOf_sig ok ok rfl hi
  obtain ⟨il2, e2, tb2⟩ := tbOf_sig ok ok2 es hi
  have pl := plc_low rl (by rw [lr]; exact p2')
  have pl' : plc p.2.1 c.2 < (tbOf p.1 p.2.2 c.1).length := by
    rw [hcd, e1, tb.len, ← lr]
    exact pl
  refine ⟨d, i, hi, hcd, p2', lr, rl, ⟨il, by rw [hcd, e1]⟩, pl', by show c.2.length ≤ 2; omega, fun x hx => by rw [lf]; exact rl x hx, ?_, ?_⟩
  · rw [lf]
    show g (tbOf p.1 p.2.2 c.1) (plc p.2.1 c.2) < p.2.1
    rw [hcd, e1]
    refine tb.low _ ?_
    rw [← lr]
    exact pl
  · show (tbOf p.1 p2.2.2 c.1).length = p2.2.1 ^ c.2.length
    rw [hcd, e2, tb2.len, lr]
end
end K73
end
section
namespace K73
open PySem PySem.Spec PyProof.Rows L2 Evl RZ Dw M20
/-! data whose lists are none of the purse's -/
mutual
inductive Dz (K : PySem.W.Frag) (p c : Addr) (H : Hp) : V → PyData → Prop where
  | non : Dz K p c H .non .none
  | bl (b : Bool) : Dz K p c H (.bl b) (.bool b)
  | int (i : Int) : Dz K p c H (.int i) (.int i)
  | str (x : Str) : Dz K p c H (.str x) (.str x)
  | lst {a : Addr} {xs : List V} {ds : List PyData} (h : H a = some (.lst xs)) (hp : a ≠ p) (hc : a ≠ c) (r : DzAll K p c H xs ds) : Dz K p c H (.ref a) (.list ds)
  | tup {a : Addr} {xs : List V} {ds : List PyData} (h : SqT K H a xs) (r : DzAll K p c H xs ds) : Dz K p c H (.ref a) (.tuple ds)
inductive DzAll (K : PySem.W.Frag) (p c : Addr) (H : Hp) : List V → List PyData → Prop where
  | nil : DzAll K p c H [] []
  | cons {v : V} {vs : List V} {d : PyData} {ds : List PyData} (a : Dz K p c H v d) (b : DzAll K p c H vs ds) : DzAll K p c H (v :: vs) (d :: ds)
end
section
variable {P : Program} {w : World} {K : PySem.W.Frag} {mg : Str → Option Value} {base : Heap} {σ : L2.St} {H H' : Hp} {p c : Addr} {n : Nat} {v : V} {d : PyData}
mutual
theorem Dz.dp : ∀ {v : V} {d : PyData}, Dz K p c H v d → Dp K H v d
  | _, _, .non => .non
  | _, _, .bl b => .bl b
  | _, _, .int i => .int i
  | _, _, .str x => .str x
  | _, _, .lst h _ _ r => .lst (sq_of h) (DzAll.dp r)
  | _, _, .tup h r => .tup h (DzAll.dp r)
theorem DzAll.dp : ∀ {vs : List V} {ds : List PyData}, DzAll K p c H vs ds → DpAll K H vs ds
  | _, _, .nil => .nil
  | _, _, .cons a b => .cons (Dz.dp a) (DzAll.dp b)
end
mutual
theorem Dz.ex (e : Ex H H') : ∀ {v : V} {d : PyData}, Dz K p c H v d → Dz K p c H' v d
  | _, _, .non => .non
  | _, _, .bl b => .bl b
  | _, _, .int i => .int i
  | _, _, .str x => .str x
  | _, _, .lst h hp hc r => .lst (e _ _ h) hp hc (DzAll.ex e r)
  | _, _, .tup h r => .tup (ex_t e h) (DzAll.ex e r)
theorem DzAll.ex (e : Ex H H') : ∀ {vs : List V} {ds : List PyData}, DzAll K p c H vs ds → DzAll K p c H' vs ds
  | _, _, .nil => .nil
  | _, _, .cons a b => .cons (Dz.ex e a) (DzAll.ex e b)
end
mutual
theorem Dz.off (pu : Pur H p c n) (o : Off H H' p c) : ∀ {v : V} {d : PyData}, Dz K p c H v d → Dz K p c H' v d
  | _, _, .non => .non
  | _, _, .bl b => .bl b
  | _, _, .int i => .int i
  | _, _, .str x => .str x
  | _, _, .lst h hp hc r => .lst (o _ _ hp hc h) hp hc (DzAll.off pu o r)
  | _, _, .tup h r => .tup (o.et pu _ _ h) (DzAll.off pu o r)
theorem DzAll.off (pu : Pur H p c n) (o : Off H H' p c) : ∀ {vs : List V} {ds : List PyData}, DzAll K p c H vs ds → DzAll K p c H' vs ds
  | _, _, .nil => .nil
  | _, _, .cons a b => .cons (Dz.off pu o a) (DzAll.off pu o b)
end
theorem DzAll.len : ∀ {vs : List V} {ds : List PyData}, DzAll K p c H vs ds → vs.length = ds.length
  | _, _, .nil => rfl
  | _, _, .cons a b => by rw [List.length_cons, List.length_cons, DzAll.len b]
theorem DzAll.get : ∀ {vs : List V} {ds : List PyData} {k : Nat} {x : V}, DzAll K p c H vs ds → vs[k]? = some x → ∃ e, ds[k]? = some e ∧ Dz K p c H x e
  | _, _, k, _, .nil, h => by
    rw [List.getElem?_nil] at h
    cases h
  | _, _, 0, x, .cons a b, h => by
    cases Option.some.inj h
    exact ⟨_, rfl, a⟩
  | _, _, k + 1, x, .cons a b, h => DzAll.get (k := k) b h
theorem DzAll.take : ∀ {vs : List V} {ds : List PyData} (k : Nat), DzAll K p c H vs ds → DzAll K p c H (vs.take k) (ds.take k)
  | _, _, k, .nil => by
    rw [List.take_nil, List.take_nil]
    exact .nil
  | _, _, 0, .cons a b => .nil
  | _, _, k + 1, .cons a b => .cons a (DzAll.take k b)
/-! bounded data, ints of up to forty signs -/
structure Gb (k W : Nat) (d : PyData) : Prop where
  lay : d.canLay0 = true
  dep : d.depth ≤ k
  wgt : d.weight ≤ W
  its : d.intsShort 40 = true
  sho : d.showable = true
theorem Gb.mono {k W k' W' : Nat} {d : PyData} (h : Gb k W d) (a : k ≤ k') (b : W ≤ W') : Gb k' W' d := ⟨h.lay, Nat.le_trans h.dep a, Nat.le_trans h.wgt b, h.its, h.sho⟩
mutual
theorem ints_mono : ∀ d : PyData, d.intsShort 13 = true → d.intsShort 40 = true
  | .none, _ => by rw [PyData.intsShort]
  | .bool _, _ => by rw [PyData.intsShort]
  | .str _, _ => by rw [PyData.intsShort]
  | .dict _, _ => by rw [PyData.intsShort]
  | .int i, h => by
    rw [PyData.intsShort, decide_eq_true_eq] at h ⊢
    omega
  | .list xs, h => by
    rw [PyData.intsShort] at h ⊢
    exact ints_monos xs h
  | .tuple xs, h => by
    rw [PyData.intsShort] at h ⊢
    exact ints_monos xs h
theorem ints_monos : ∀ ds : List PyData, PyData.intsShortAll 13 ds = true → PyData.intsShortAll 40 ds = true
  | [], _ => by rw [PyData.intsShortAll]
  | d :: ds, h => by
    rw [PyData.intsShortAll, Bool.and_eq_true] at h ⊢
    exact ⟨ints_mono d h.1, ints_monos ds h.2⟩
end
theorem Gd.gb {k W : Nat} {d : PyData} (h : Gd k W d) : Gb k W d := ⟨h.lay, h.dep, h.wgt, ints_mono d h.its, h.sho⟩
theorem Gb.len {k W : Nat} {d : PyData} (h : Gb k W d) (b : W ≤ 100000) : d.shown.length ≤ sizeLine := by
  have z := PyData.shown_le 40 (by decide) d (PyData.leavesShort_of_canLay0 40 d h.lay h.its)
  have y := h.wgt
  rw [sizeLine_eq]
  omega
/-! what isinstance says -/
def isTup : PyData → Bool
  | .tuple _ => true
  | _ => false
def wholeB : PyData → Bool
  | .int _ => true
  | _ => false
theorem ev_isIntB {ta tb tc td : TE} (ha : Ev ta σ H v) (hc : Ev tb σ H (.ty "int")) (ha2 : Ev tc σ H v) (hc2 : Ev td σ H (.ty "bool")) (h : Dz K p c H v d) : Ev (tAndV (tCB (rIsi K) (tCons ta (tCons tb tNil))) (tNotV (tCB (rIsi K) (tCons tc (tCons td tNil))))) σ H (.bl (wholeB d)) := by
  cases h with
  | non => exact ev_andV (a := false) (b := false) (ev_isi ha hc (.ty _) (fun _ _ => tyx_non) (kit_ty (by decide +kernel))) (fun z => by cases z)
  | bl b => exact ev_andV (a := true) (b := false) (ev_isi ha hc (.ty _) (fun _ _ => tyx_bl b) (kit_ty (by decide +kernel))) (fun _ => ev_notV (a := true) (ev_isi ha2 hc2 (.ty _) (fun _ _ => tyx_bl b) (kit_ty (by decide +kernel))))
  | int i => exact ev_andV (a := true) (b := true) (ev_isi ha hc (.ty _) (fun _ _ => tyx_int i) (kit_ty (by decide +kernel))) (fun _ => ev_notV (a := false) (ev_isi ha2 hc2 (.ty _) (fun _ _ => tyx_int i) (kit_ty (by decide +kernel))))
  | str z => exact ev_andV (a := false) (b := false) (ev_isi ha hc (.ty _) (fun _ _ => tyx_str z) (kit_ty (by decide +kernel))) (fun z => by cases z)
  | lst h _ _ _ => exact ev_andV (a := false) (b := false) (ev_isi ha hc (.ty _) (fun _ e => .base (.lst (e _ _ h))) (kit_ty (by decide +kernel))) (fun z => by cases z)
  | tup h _ => exact ev_andV (a := false) (b := false) (ev_isi ha hc (.ty _) (fun _ e => tyx_tup (ex_t e h)) (kit_ty (by decide +kernel))) (fun z => by cases z)
end
def belowB (n : Int) : PyData → Bool
  | .int i => decide (0 ≤ i) && decide (i < n)
  | _ => false
section
variable {P : Program} {w : World} {K : PySem.W.Frag} {mg : Str → Option Value} {base : Heap} {σ : L2.St} {H H' : Hp} {p c : Addr} {n : Nat} {v : V} {d : PyData}
def sp_whole_any (K : PySem.W.Frag) : Sp := spX (fun (z : (Addr × Addr) × PyData) vs H => (fun (p c : Addr) (d : PyData) => ∃ v, vs = [v] ∧ Dz K p c H v d) z.1.1 z.1.2 z.2) (fun z v H => (fun (d : PyData) => v = .bl (wholeB d)) z.2)
theorem c_whole_any (T : Txt mg) (D : Df K mg "is_whole" s_is_whole ["thing"]) : Cl P w K mg base 1 "is_whole" (sp_whole_any K) := by
  refine cl_of (k := 0) D sc_is_whole (fun vs H Q E h => ?_) (fun f cdv A outer s H vs Q E hr h => ?_)
  · obtain ⟨d, ⟨v, rfl, _⟩, _⟩ := h
    rfl
  · obtain ⟨⟨⟨p, c⟩, d⟩, ⟨v, rfl, hv⟩, q⟩ := h
    refine ⟨_, (pss_one (ps_ret (pe_and (pe_callB call_isi (by rfl) T.z_isinstance (by decide +kernel) (pa_cons (pv 0) (pa_cons (pe_ty "int" (by rfl) T.z_int (by decide +kernel)) pa_nil))) (pe_one (pe_not (pe_callB call_isi (by rfl) T.z_isinstance (by decide +kernel) (pa_cons (pv 0) (pa_cons (pe_ty "bool" (by rfl) T.z_bool (by decide +kernel)) pa_nil)))))))), ?_⟩
    exact s_ret (ev_isIntB (K := K) (ev_var rfl) ev_c (ev_var rfl) ev_c hv) fun H1 e1 => q _ H1 e1 rfl
theorem whole_int (h : Dz K p c H v d) (w : wholeB d = true) : ∃ i, v = .int i ∧ d = .int i := by
  cases h with
  | int i => exact ⟨i, rfl, rfl⟩
  | non => cases w
  | bl b => cases w
  | str z => cases w
  | lst _ _ _ _ => cases w
  | tup _ _ => cases w
def sp_below_any (K : PySem.W.Frag) : Sp := spX (fun (z : (Addr × Addr) × PyData × Int) vs H => (fun (p c : Addr) (q : PyData × Int) => ∃ v, vs = [v, .int q.2] ∧ Dz K p c H v q.1) z.1.1 z.1.2 z.2) (fun z v H => (fun (q : PyData × Int) => v = .bl (belowB q.2 q.1)) z.2)
theorem c_below_any (T : Txt mg) (D : Df K mg "is_below" s_is_below ["thing", "size"]) (c_whole_any : Cl P w K mg base 1 "is_whole" (sp_whole_any K)) : Cl P w K mg base 2 "is_below" (sp_below_any K) := by
  refine cl_of (k := 1) D sc_is_below (fun vs H Q E h => ?_) (fun f cdv A outer s H vs Q E hr h => ?_)
  · obtain ⟨d, ⟨v, rfl, _⟩, _⟩ := h
    rfl
  · obtain ⟨⟨⟨p, c⟩, d, n⟩, ⟨v, rfl, hv⟩, q⟩ := h
    have c_is_whole := c_whole_any
    refine ⟨_, (pss_one (ps_ret (pe_and (pe_cl c_is_whole hr (by first | decide | omega) (by rfl) (pa_cons (pv 0) pa_nil)) (pe_one (pe_chain op_le op_lt pe_int (pv 0) (pv 1)))))), ?_⟩
    replace hv : Dz K p c H v d := hv
    replace q : ∀ r H', Ex H H' → r = .bl (belowB n d) → Q r H' := q
    by_cases hw : wholeB d = true
    · obtain ⟨i, rfl, rfl⟩ := whole_int hv hw
      refine s_ret (ev_andV (a := true) (b := belowB n (.int i)) (ev_callV (v := .bl true) ((p, c), PyData.int i) (ea_cons (ev_var rfl) ea_nil) (fun H1 e1 => ⟨_, rfl, .int i⟩) (fun _ _ z => z.trans rfl)) (fun _ => ev_chain ev_c (ev_var rfl) (fun _ => ev_var rfl) rv_I0 (fun _ => rv_I0))) fun H1 e1 => q _ H1 e1 rfl
    · have hw2 : wholeB d = false := by simpa using hw
      refine s_ret (ev_andV (a := false) (b := false) (ev_callV (v := .bl false) ((p, c), d) (ea_cons (ev_var rfl) ea_nil) (fun H1 e1 => ⟨_, rfl, hv.ex e1⟩) (fun _ _ z => by rw [z, hw2])) (fun z => by cases z)) fun H1 e1 => q _ H1 e1 ?_
      cases d <;> first | rfl | cases hw2
end
end K73
end
section
namespace K73
open PySem PySem.Spec PyProof.Rows L2 Evl RZ Dw M20 M25 CL LD
section
variable {P : Program} {w : World} {K : PySem.W.Frag} {mg : Str → Option Value} {base : Heap} {σ : L2.St} {H : Hp} {ta tb : TE}
theorem ev_ixNP {ns : List Nat} {k : Nat} (ha : EvP ta σ H (fun v H' => Nats K H' v ns)) (hb : ∀ H1, Ex H H1 → Ev tb σ H1 (vi k)) (hk : k < ns.length) : Ev (tOp (rIxT K) ta tb) σ H (vi (g ns k)) := fun H1 e1 Q q =>
  do_op (ha H1 e1 _ fun v H2 e2 ⟨a, hv, hs⟩ => by
    subst hv
    exact do_ev (hb H2 (e1.trans e2)) fun H3 e3 => ⟨a, ns.map vi, ((k : Nat) : Int), vi (g ns k), rfl, rfl, ex_t e3 hs, atI_vi (k := k) (by rw [List.getElem?_map, g_eq hk]; rfl), q H3 (e2.trans e3)⟩)
theorem find_at {α : Type} {f : α → Bool} {c : α} : ∀ {L : List α} {i : Nat}, L[i]? = some c → (L.take i).all (fun x => !f x) = true → f c = true → L.find? f = some c
  | x :: L, 0, h, _, hc => by
    cases Option.some.inj h
    rw [List.find?_cons, hc]
  | x :: L, i + 1, h, hn, hc => by
    rw [List.take_succ_cons, List.all_cons, Bool.and_eq_true, Bool.not_eq_true'] at hn
    rw [List.find?_cons, hn.1]
    exact find_at (L := L) (i := i) h hn.2 hc
theorem find_no {α : Type} {f : α → Bool} {L : List α} (hn : L.all (fun x => !f x) = true) : L.find? f = none := by
  rw [List.find?_eq_none]
  intro x hx hf
  have := List.all_eq_true.mp hn x hx
  rw [hf] at this
  cases this
theorem c_first_odd_cell_leads (T : Txt mg) (D : DfQ K mg "first_odd_cell_leads" "first_odd_cell" s_first_odd_lead ["signature", "one", "other", "images"]) (c_cells_in_order : Cl P w K mg base 2 "cells_in_order" (sp_order K)) (c_table_of : Cl P w K mg base 1 "table_of" (sp_table_of K)) (c_place_of_rowT : Cl P w K mg base 1 "place_of_row" (sp_place_T K)) (c_leads_on : Cl P w K mg base 2 "leads_on" (sp_leads_on K)) : Cl P w K mg base 3 "first_odd_cell_leads" (sp_first_odd_lead K) := by
  refine cl_ofQ (k := 2) D sc_first_odd_lead (fun vs H Q E h => ?_) (fun f cdv A outer s H vs Q E hr h => ?_)
  · obtain ⟨p, ⟨⟨u, v, w, a, rfl, _⟩, _⟩, _⟩ := h
    rfl
  · obtain ⟨⟨p, p2, F⟩, ⟨⟨u, v, w, a, rfl, hm, hw, ha⟩, ok, ok2, es, lf, low⟩, q⟩ := h
    refine ⟨_, (pss_cons (ps_for PassesOwn.never (by rfl) (pi_list (pe_cl c_cells_in_order hr (by first | decide | omega) (by rfl) (pa_cons (pv 0) (pa_cons (pe_ix ix_tup (pv 1) pe_int (fun _ _ => rfl)) pa_nil)))) (pg_tup (by rfl) (pgs_cons (pg_name (i := 4) sc_first_odd_lead.nd rfl (.inl rfl)) (pgs_cons (pg_name (i := 5) sc_first_odd_lead.nd rfl (.inl rfl)) pgs_nil)))
        (pss_cons (ps_set (i := 6) sc_first_odd_lead.nd rfl (.inl rfl) (pe_ix ix_tup (pe_cl c_table_of hr (by first | decide | omega) (by rfl) (pa_cons (pv 0) (pa_cons (pe_ix ix_tup (pv 1) pe_int (fun _ _ => rfl)) (pa_cons (pv 4) pa_nil)))) (pe_cl c_place_of_rowT hr (by first | decide | omega) (by rfl) (pa_cons (pe_ix ix_tup (pv 1) pe_int (fun _ _ => rfl)) (pa_cons (pv 5) pa_nil))) (fun _ _ => rfl)))
        (pss_one (ps_if (pt_not (pt_val (pe_cl c_leads_on hr (by first | decide | omega) (by rfl) (pa_cons (pe_lst (pa_cons (pe_tup (pa_cons (pv 5) (pa_cons (pv 6) (pa_cons (pe_cl c_table_of hr (by first | decide | omega) (by rfl) (pa_cons (pv 0) (pa_cons (pe_ix ix_tup (pv 2) pe_int (fun _ _ => rfl)) (pa_cons (pv 4) pa_nil)))) pa_nil)))) pa_nil)) (pa_cons (pe_ix ix_tup (pv 2) pe_int (fun _ _ => rfl)) (pa_cons (pv 3) pa_nil))))))
          (pss_one (ps_ret (pe_tup (pa_cons (pv 4) (pa_cons (pv 5) pa_nil)))))
          pss_nil))))
      (pss_one (ps_ret pe_non))), ?_⟩
    replace hm : MA K H u v p := hm
    replace hw : Mdl K H w p2.2.1 p2.2.2 := hw
    replace ha : SqL K H a (F.map vi) := ha
    replace es : p2.1 = p.1 := es
    replace lf : F.length = p.2.1 := lf
    replace low : ∀ y ∈ F, y < p2.2.1 := low
    replace q : ∀ r H', Ex H H' → OddV K H' r (fod p p2 F) → Q r H' := q
    obtain ⟨z, tv, rfl, hZ, hT⟩ := id hm.2
    obtain ⟨z2, tv2, rfl, hZ2, hT2⟩ := id hw
    have n6 := ok.2.n6
    have n26 := ok2.2.n6
    refine q_forLs (ea_cons (ev_var rfl) (ea_cons (ev_op (ev_var rfl) ev_c (rv_ixT (K := K) hZ (atI_vi (k := 0) rfl))) ea_nil) H (Ex.refl _) _ fun H1 e1 => ⟨p.1, p.2.1, u, rfl, hm.1.ex e1, ok.1, n6, fun b bs H2 e2 nb hb pw => ⟨b, rfl, ⟨_, sq_of hb⟩, ?_⟩⟩)
    have e02 := e1.trans e2
    replace pw : Paired (ArgV K H2) bs (ordc p.2.1 p.1) := pw
    refine qloops_list (K := K) (xs := bs) (fun i σ H' => Ex H2 H' ∧ ((ordc p.2.1 p.1).take i).all (fun c => !(!okC p2.2.1 F (lcOf p p2 c))) = true ∧ ∃ y4 y5 y6, σ = [some u, some (.ref z), some (.ref z2), some (.ref a), y4, y5, y6]) ⟨Ex.refl _, by rw [List.take_zero]; rfl, none, none, none, rfl⟩ (fun i σ' H' _ ⟨e, _⟩ => sq_of (e _ _ hb)) (fun i x σ' H3 hx ⟨e3, al, y4, y5, y6, hσ⟩ => ?_) (fun σ' H3 ⟨e3, al, y4, y5, y6, hσ⟩ => ?_)
    · subst hσ
      obtain ⟨c, hc, t, x1, rfl, ht, xa, rfl, hxa⟩ := paired_at pw hx
      obtain ⟨d, i2, hi2, hcd, p2', lr, rl, tb, pl, gd⟩ := lcOf_gd ok ok2 es lf (ordc_mem (List.mem_iff_getElem?.mpr ⟨i, hc⟩))
      have e03 := e02.trans e3
      have dm : (c.1, d.2) ∈ p.1 := by rw [hcd]; exact List.mem_iff_getElem?.mpr ⟨i2, hi2⟩
      refine ⟨t, _, rfl, ex_t e3 ht, rfl, _, _, rfl, _, _, rfl, rfl, ?_⟩
      show tSeq _ _ _ [some u, some (.ref z), some (.ref z2), some (.ref a), some (.str c.1), some (.ref xa), y6] H3
      refine q_asg (v := vi (g (tbOf p.1 p.2.2 c.1) (plc p.2.1 c.2))) (ev_ixNP (ep_call (p.1, p.2.1, p.2.2, c.1, d.2) (ea_cons (ev_var rfl) (ea_cons (ev_op (ev_var rfl) ev_c (rv_ixT (K := K) (ex_t e03 hZ) (atI_vi (k := 1) rfl))) (ea_cons (ev_var rfl) ea_nil))) (fun H4 e4 => ⟨⟨_, _, rfl, hm.1.ex (e03.trans e4), hT.ex (e03.trans e4)⟩, ok.2.len, dm⟩)) (fun H4 e4 => ev_callV (p.2.1, c.2) (ea_cons (ev_op (ev_var rfl) ev_c (rv_ixT (K := K) (ex_t (e03.trans e4) hZ) (atI_vi (k := 0) rfl))) (ea_cons (ev_var rfl) ea_nil)) (fun H5 e5 => ⟨⟨_, rfl, xa, rfl, ex_t (e3.trans (e4.trans e5)) hxa⟩, n6, by show c.2.length ≤ 2; omega, rl⟩) (fun _ _ z => z)) pl) fun H4 e4 => ?_
      have e04 := e03.trans e4
      refine s_when (b := !okC p2.2.1 F (lcOf p p2 c)) (et_not (et_val ?_)) (fun ho H5 e5 => ?_) (fun ho H5 e5 => ?_)
      · intro H5 e5 Q' q'
        refine do_cons (do_lst (do_cons (ep_lc (K := K) (c := lcOf p p2 c) (ev_var rfl) (ev_var rfl) (ep_call (p.1, p2.2.1, p2.2.2, c.1, d.2) (ea_cons (ev_var rfl) (ea_cons (ev_op (ev_var rfl) ev_c (rv_ixT (K := K) (ex_t (e04.trans e5) hZ2) (atI_vi (k := 1) rfl))) (ea_cons (ev_var rfl) ea_nil))) (fun H6 e6 => ⟨⟨_, _, rfl, hm.1.ex (e04.trans (e5.trans e6)), hT2.ex (e04.trans (e5.trans e6))⟩, by rw [← es]; exact ok2.2.len, dm⟩)) ⟨xa, rfl, ex_t (e3.trans (e4.trans e5)) hxa⟩ H5 (Ex.refl _) _ fun lv H6 e6 hlv => do_nil ⟨by show 1 ≤ sizeLine; decide, fun l nl => ?_⟩)))
        have e7 := Ex.new (H := H6) (o := .lst [lv]) nl
        have e57 := e6.trans e7
        refine do_cons (do_ev (v := vi p2.2.1) (ev_op (ev_var rfl) ev_c (rv_ixT (K := K) (ex_t (e04.trans (e5.trans e57)) hZ2) (atI_vi (k := 0) rfl))) fun H8 e8 => do_cons (do_ev (ev_var rfl) fun H9 e9 => do_nil ⟨([lcOf p p2 c], p2.2.1, F), ⟨⟨l, [lv], a, rfl, (e8.trans e9) _ _ upd_same, .cons (LcV.et (Dw.Ex.et (e7.trans (e8.trans e9))) hlv) .nil, ex_l (e04.trans (e5.trans (e57.trans (e8.trans e9)))) ha⟩, n26, low, fun c' hc' => by rw [List.mem_singleton.mp hc']; exact gd⟩, fun r H10 e10 hr => ?_⟩))
        rw [hr]
        refine Eq.mp (congrArg (fun b => Q' (.bl b) H10) ?_) (q' H10 (e57.trans (e8.trans (e9.trans e10))))
        show okC p2.2.1 F (lcOf p p2 c) = allOk p2.2.1 [lcOf p p2 c] F
        rw [allOk, List.all_cons, List.all_nil, Bool.and_true]
      · have fd : fod p p2 F = some c := find_at hc al ho
        refine s_retP (tv_tup (K := K) (xs := [.str c.1, .ref xa]) (ea_cons (ev_var rfl) (ea_cons (ev_var rfl) ea_nil)) (by show 2 ≤ 100000; decide)) fun v H6 e6 ⟨vb, hv, hvb⟩ => q _ H6 (e04.trans (e5.trans e6)) ?_
        rw [fd]
        exact ⟨vb, .ref xa, hv, hvb, xa, rfl, ex_t (e3.trans (e4.trans (e5.trans e6))) hxa⟩
      · refine ⟨e3.trans (e4.trans e5), ?_, _, _, _, rfl⟩
        rw [List.take_add_one, hc, List.all_append, al]
        show (true && ([c].all _)) = true
        rw [List.all_cons, List.all_nil, Bool.and_true, Bool.true_and, ho]
        rfl
    · subst hσ
      refine s_ret (v := .non) ev_c fun H4 e4 => q _ H4 (e02.trans (e3.trans e4)) ?_
      rw [show fod p p2 F = none from find_no (by rw [List.take_of_length_le (by rw [paired_len pw]; exact Nat.le_refl _)] at al; exact al)]
      rfl
end
end K73
end
section
namespace K73
open PySem PySem.Spec PyProof.Rows L2 Evl RZ Dw M20 M25 CL LD
def isLst : PyData → Bool
  | .list _ => true
  | _ => false
def listOf : PyData → List PyData
  | .list ds => ds
  | _ => []
def natOf : PyData → Nat
  | .int i => i.toNat
  | _ => 0
def natsOf (d : PyData) : List Nat := (listOf d).map natOf
def formB (n1 n2 : Nat) (d : PyData) : Bool := isLst d && (decide ((listOf d).length = n1) && (listOf d).all (belowB n2))
def cellD (c : Str × List Nat) : PyData := .tuple [.str "cell", .str c.1, dN c.2]
def leadW (p p2 : MArg) (d : PyData) : PyData := if formB p.2.1 p2.2.1 d = true then (match fod p p2 (natsOf d) with
  | none => .none
  | some c => cellD c) else .tuple [.str "form"]
section
variable {P : Program} {w : World} {K : PySem.W.Frag} {mg : Str → Option Value} {base : Heap} {σ : L2.St} {H : Hp} {ta tb : TE} {p c : Addr} {v : V} {d : PyData}
theorem ev_isLst {ta tb : TE} (ha : Ev ta σ H v) (hc : Ev tb σ H (.ty "list")) (h : Dz K p c H v d) : Ev (tCB (rIsi K) (tCons ta (tCons tb tNil))) σ H (.bl (isLst d)) := by
  cases h with
  | non => exact ev_isi (b := false) ha hc (.ty _) (fun _ _ => tyx_non) (kit_ty (by decide +kernel))
  | bl b => exact ev_isi (b := false) ha hc (.ty _) (fun _ _ => tyx_bl b) (kit_ty (by decide +kernel))
  | int i => exact ev_isi (b := false) ha hc (.ty _) (fun _ _ => tyx_int i) (kit_ty (by decide +kernel))
  | str z => exact ev_isi (b := false) ha hc (.ty _) (fun _ _ => tyx_str z) (kit_ty (by decide +kernel))
  | lst h _ _ _ => exact ev_isi (b := true) ha hc (.ty _) (fun _ e => .base (.lst (e _ _ h))) (kit_ty (by decide +kernel))
  | tup h _ => exact ev_isi (b := false) ha hc (.ty _) (fun _ e => tyx_tup (ex_t e h)) (kit_ty (by decide +kernel))
theorem do_ifX {b : Bool} {Q : VK} {tt : TT} {ta tb : TE} (h : EvT tt σ H b) (h1 : b = true → ∀ H1, Ex H H1 → ta σ H1 Q) (h2 : b = false → ∀ H1, Ex H H1 → tb σ H1 Q) : tIf tt ta tb σ H Q := by
  refine h H (Ex.refl _) _ fun H1 e1 => ?_
  cases b with
  | true => exact h1 rfl H1 e1
  | false => exact h2 rfl H1 e1
theorem lst_of (h : Dz K p c H v d) (e : isLst d = true) : ∃ a xs ds, v = .ref a ∧ d = .list ds ∧ H a = some (.lst xs) ∧ DzAll K p c H xs ds ∧ a ≠ p ∧ a ≠ c := by
  cases h with
  | lst h hp hc r => exact ⟨_, _, _, rfl, rfl, h, r, hp, hc⟩
  | _ => cases e
theorem below_nat {n : Nat} {e : PyData} (h : Dz K p c H v e) (b : belowB n e = true) : v = vi (natOf e) ∧ natOf e < n := by
  cases h with
  | int i =>
    rw [belowB, Bool.and_eq_true, decide_eq_true_eq, decide_eq_true_eq] at b
    refine ⟨?_, ?_⟩
    · show V.int i = V.int ((i.toNat : Nat) : Int)
      rw [Int.toNat_of_nonneg b.1]
    · show i.toNat < n
      omega
  | _ => cases b
theorem below_all {n : Nat} : ∀ {vs : List V} {ds : List PyData}, DzAll K p c H vs ds → ds.all (belowB n) = true → vs = (ds.map natOf).map vi ∧ ∀ y ∈ ds.map natOf, y < n
  | _, _, .nil, _ => ⟨rfl, fun y hy => by cases hy⟩
  | _, _, .cons a b, h => by
    rw [List.all_cons, Bool.and_eq_true] at h
    obtain ⟨h1, h2⟩ := below_nat a h.1
    obtain ⟨h3, h4⟩ := below_all b h.2
    refine ⟨by rw [List.map_cons, List.map_cons, h1, h3], fun y hy => ?_⟩
    rw [List.map_cons] at hy
    rcases List.mem_cons.mp hy with e | e
    · rw [e]; exact h2
    · exact h4 y e
theorem form_nats {n1 n2 : Nat} (h : Dz K p c H v d) (b : formB n1 n2 d = true) : ∃ a, v = .ref a ∧ H a = some (.lst ((natsOf d).map vi)) ∧ (natsOf d).length = n1 ∧ ∀ y ∈ natsOf d, y < n2 := by
  rw [formB, Bool.and_eq_true, Bool.and_eq_true, decide_eq_true_eq] at b
  obtain ⟨a, xs, ds, rfl, rfl, ha, hd, _, _⟩ := lst_of h b.1
  obtain ⟨h1, h2⟩ := below_all hd b.2.2
  refine ⟨a, rfl, by rw [ha, h1]; rfl, ?_, h2⟩
  show (ds.map natOf).length = n1
  rw [List.length_map]
  exact b.2.1
def sp_row_any (K : PySem.W.Frag) : Sp := spX (fun (z : (Addr × Addr) × List PyData × Nat × Nat) vs H => (∃ a xs, vs = [.ref a, vi z.2.2.1, vi z.2.2.2] ∧ SqT K H a xs ∧ DzAll K z.1.1 z.1.2 H xs z.2.1) ∧ z.2.1.length ≤ 1000) (fun z v _ => v = .bl (decide (z.2.1.length = z.2.2.1) && z.2.1.all (belowB z.2.2.2)))
theorem c_row_any (T : Txt mg) (D : Df K mg "is_row" s_is_row ["thing", "many", "size"]) (c_below_any : Cl P w K mg base 2 "is_below" (sp_below_any K)) : Cl P w K mg base 3 "is_row" (sp_row_any K) := by
  refine cl_of (k := 2) D sc_is_row (fun vs H Q E h => ?_) (fun f cdv A outer s H vs Q E hr h => ?_)
  · obtain ⟨z, ⟨⟨a, xs, rfl, _⟩, _⟩, _⟩ := h
    rfl
  · obtain ⟨⟨⟨p, c⟩, ds, m, n⟩, ⟨⟨a, xs, rfl, ha, hd⟩, few⟩, q⟩ := h
    have c_is_below := c_below_any
    refine ⟨_, (pss_one (ps_ret (pe_and (pe_callB call_isi (by rfl) T.z_isinstance (by decide +kernel) (pa_cons (pv 0) (pa_cons (pe_ty "tuple" (by rfl) T.z_tuple (by decide +kernel)) pa_nil))) (pe_and (pe_cmpR op_eq (pe_callB call_len_seq (by rfl) T.z_len PySem.boot_len (pa_cons (pv 0) pa_nil)) (pv 1) (nomark _)) (pe_one (pe_callB (cr_all rfl) (by rfl) T.z_all (by decide +kernel) (pa_cons (pe_lc (own := [("number", 3)]) (g := (gName 3)) (by rfl) sc_is_row.nd (pi_tup (pv 0)) (blkOk_by (own := [("number", 3)]) (N := ["thing", "many", "size", "number"]) (sc := (defScope s_is_row)) (by decide +kernel)) (fun _ _ _ _ _ => (pg_name (i := 3) sc_is_row.nd rfl (.inl rfl))) (fun _ _ _ _ _ => pts_nil) (fun _ _ _ _ _ => (pe_cl c_is_below hr (by first | decide | omega) (by rfl) (pa_cons (pv 3) (pa_cons (pv 2) pa_nil))))) pa_nil))))))), ?_⟩
    replace hd : DzAll K p c H xs ds := hd
    replace few : ds.length ≤ 1000 := few
    have lx := DzAll.len hd
    refine s_ret (v := .bl (decide (ds.length = m) && ds.all (belowB n))) (ev_is (ev_andV (a := true) (b := decide (ds.length = m) && ds.all (belowB n)) (ev_isi (ev_var rfl) ev_c (.ty _) (fun _ e => tyx_tup (ex_t e ha)) kit_tt) (fun _ => ev_andV (a := decide (ds.length = m)) (b := ds.all (belowB n)) (ev_is (ev_op (ev_lenT (ev_var rfl) ha) (ev_var rfl) (rv_eq rfl)) ?_) (fun _ => ev_is (ev_all (bs := ds.map (belowB n)) ?_) ?_))) (by rw [Bool.true_and])) fun H1 e1 => q _ H1 e1 rfl
    · congr 1
      rw [decide_eq_decide, lx]
      constructor
      · intro z
        have y : (ds.length : Int) = (m : Int) := V.int.inj z
        exact Int.ofNat.inj y
      · intro z
        rw [show ds.length = m from z]
    · have z := el_lcT (K := K) (tl := tVar 0) (te := tCall (sp_below_any K) [] E0 (tCons (tVar 3) (tCons (tVar 2) tNil))) (σ := [some (.ref a), some (vi m), some (vi n), none]) (j := 3) (vs := [3]) (ev_var rfl) ha (fun i => V.bl (belowB n (ds.getD i .none))) (by rw [lx]; omega) (fun _ => rfl) (fun i x H1 e1 hx => by
        obtain ⟨e, he, hz⟩ := hd.get hx
        refine ev_callV ((p, c), ds.getD i .none, ((n : Nat) : Int)) (ea_cons (ev_var rfl) (ea_cons (ev_var rfl) ea_nil)) (fun H2 e2 => ⟨x, rfl, ?_⟩) (fun _ _ z => z)
        show Dz K p c H2 x (ds.getD i .none)
        rw [List.getD_eq_getElem?_getD, he]
        exact hz.ex (e1.trans e2))
      have e : (List.range xs.length).map (fun i => V.bl (belowB n (ds.getD i .none))) = (ds.map (belowB n)).map V.bl := by
        have h1 : (List.range ds.length).map (fun i => V.bl (belowB n (ds.getD i .none))) = (((List.range ds.length).map fun i => ds.getD i PyData.none).map (belowB n)).map V.bl := by
          rw [List.map_map, List.map_map]
          rfl
        rw [lx, h1, Dw.range_getD]
      rw [e] at z
      exact z
    · rw [List.all_map]
      rfl
def sp_form (K : PySem.W.Frag) : Sp := spX (fun (z : (Addr × Addr) × PyData × Nat × Nat) vs H => (∃ a b v r1 r2, vs = [.ref a, .ref b, v] ∧ SqT K H a [vi z.2.2.1, r1] ∧ SqT K H b [vi z.2.2.2, r2] ∧ Dz K z.1.1 z.1.2 H v z.2.1) ∧ (listOf z.2.1).length ≤ 1000) (fun z v _ => v = .bl (formB z.2.2.1 z.2.2.2 z.2.1))
theorem c_has_lead_form (T : Txt mg) (D : Df K mg "has_lead_form" s_has_lead_form ["one", "other", "thing"]) (c_row_any : Cl P w K mg base 3 "is_row" (sp_row_any K)) : Cl P w K mg base 4 "has_lead_form" (sp_form K) := by
  refine cl_of (k := 3) D sc_has_lead_form (fun vs H Q E h => ?_) (fun f cdv A outer s H vs Q E hr h => ?_)
  · obtain ⟨z, ⟨⟨a, b, v, r1, r2, rfl, _⟩, _⟩, _⟩ := h
    rfl
  · obtain ⟨⟨⟨p, c⟩, d, n1, n2⟩, ⟨⟨a, b, v, r1, r2, rfl, ha, hb, hv⟩, few⟩, q⟩ := h
    have c_is_row := c_row_any
    refine ⟨_, (pss_one (ps_ret (pe_and (pe_callB call_isi (by rfl) T.z_isinstance (by decide +kernel) (pa_cons (pv 2) (pa_cons (pe_ty "list" (by rfl) T.z_list (by decide +kernel)) pa_nil))) (pe_one (pe_cl c_is_row hr (by first | decide | omega) (by rfl) (pa_cons (pe_callTy call_tuple_of (by rfl) T.z_tuple (by decide +kernel) (pa_cons (pv 2) pa_nil)) (pa_cons (pe_ix ix_tup (pv 0) pe_int (fun _ _ => rfl)) (pa_cons (pe_ix ix_tup (pv 1) pe_int (fun _ _ => rfl)) pa_nil)))))))), ?_⟩
    replace ha : SqT K H a [vi n1, r1] := ha
    replace hb : SqT K H b [vi n2, r2] := hb
    replace hv : Dz K p c H v d := hv
    replace few : (listOf d).length ≤ 1000 := few
    refine s_ret (v := .bl (formB n1 n2 d)) (ev_andV (a := isLst d) (b := decide ((listOf d).length = n1) && (listOf d).all (belowB n2)) (ev_isLst (K := K) (ev_var rfl) ev_c hv) fun e => ?_) fun H1 e1 => q _ H1 e1 rfl
    obtain ⟨x, xs, ds, rfl, rfl, hx, hd, _, _⟩ := lst_of hv e
    intro H1 e1 Q' q'
    refine do_cons (eu_tupL (K := K) (ev_var rfl) (sq_of hx) H1 e1 _ fun r H2 nr e2 hr => do_cons (do_ev (v := vi n1) (ev_op (ev_var rfl) ev_c (rv_ixT (K := K) (ex_t (e1.trans e2) ha) (atI_vi (k := 0) rfl))) fun H3 e3 => do_cons (do_ev (v := vi n2) (ev_op (ev_var rfl) ev_c (rv_ixT (K := K) (ex_t (e1.trans (e2.trans e3)) hb) (atI_vi (k := 0) rfl))) fun H4 e4 => do_nil ⟨((p, c), ds, n1, n2), ⟨⟨r, xs, rfl, ex_t (e3.trans e4) (st_of hr), DzAll.ex (e1.trans (e2.trans (e3.trans e4))) hd⟩, few⟩, fun u H5 e5 hu => ?_⟩)))
    rw [hu]
    exact q' H5 (e2.trans (e3.trans (e4.trans e5)))
/-! ### what is wrong with a thing as a lead -/
def sp_lead_wrong (K : PySem.W.Frag) : Sp := spX (fun (z : (Addr × Addr) × MArg × MArg × PyData) vs H => (∃ u v w x, vs = [u, v, w, x] ∧ MA K H u v z.2.1 ∧ Mdl K H w z.2.2.1.2.1 z.2.2.1.2.2 ∧ Dz K z.1.1 z.1.2 H x z.2.2.2) ∧ MOk z.2.1 ∧ MOk z.2.2.1 ∧ z.2.2.1.1 = z.2.1.1 ∧ (listOf z.2.2.2).length ≤ 1000) (fun z v H => Dp K H v (leadW z.2.1 z.2.2.1 z.2.2.2))
theorem c_lead_wrong (T : Txt mg) (D : Df K mg "lead_wrong" s_lead_wrong ["signature", "one", "other", "thing"]) (c_has_lead_form : Cl P w K mg base 4 "has_lead_form" (sp_form K)) (c_first_odd_cell_leads : Cl P w K mg base 3 "first_odd_cell_leads" (sp_first_odd_lead K)) : Cl P w K mg base 5 "lead_wrong" (sp_lead_wrong K) := by
  refine cl_of (k := 4) D sc_lead_wrong (fun vs H Q E h => ?_) (fun f cdv A outer s H vs Q E hr h => ?_)
  · obtain ⟨z, ⟨⟨u, v, w, x, rfl, _⟩, _⟩, _⟩ := h
    rfl
  · obtain ⟨⟨⟨p0, c0⟩, p, p2, d⟩, ⟨⟨u, v, w, x, rfl, hm, hw, hx⟩, ok, ok2, es, few⟩, q⟩ := h
    refine ⟨_, (pss_cons (ps_if (pt_not (pt_val (pe_cl c_has_lead_form hr (by first | decide | omega) (by rfl) (pa_cons (pv 1) (pa_cons (pv 2) (pa_cons (pv 3) pa_nil))))))
        (pss_one (ps_ret (pe_tup (pa_cons pe_str pa_nil))))
        pss_nil)
      (pss_cons (ps_set (i := 4) sc_lead_wrong.nd rfl (.inl rfl) (pe_cl c_first_odd_cell_leads hr (by first | decide | omega) (by rfl) (pa_cons (pv 0) (pa_cons (pv 1) (pa_cons (pv 2) (pa_cons (pv 3) pa_nil))))))
      (pss_one (ps_ret (pe_ifExp (pt_cmpR op_isN (pv 4) pe_non (nomark _)) pe_non (pe_tup (pa_cons pe_str (pa_cons (pe_ix ix_tup (pv 4) pe_int (fun _ _ => rfl)) (pa_cons (pe_ix ix_tup (pv 4) pe_int (fun _ _ => rfl)) pa_nil))))))))), ?_⟩
    replace hm : MA K H u v p := hm
    replace hw : Mdl K H w p2.2.1 p2.2.2 := hw
    replace hx : Dz K p0 c0 H x d := hx
    replace es : p2.1 = p.1 := es
    replace few : (listOf d).length ≤ 1000 := few
    replace q : ∀ r H', Ex H H' → Dp K H' r (leadW p p2 d) → Q r H' := q
    obtain ⟨z, tv, rfl, hZ, hT⟩ := id hm.2
    obtain ⟨z2, tv2, rfl, hZ2, hT2⟩ := id hw
    refine q_when (b := !formB p.2.1 p2.2.1 d) (et_not (et_val (ev_callV (v := .bl (formB p.2.1 p2.2.1 d)) ((p0, c0), d, p.2.1, p2.2.1) (ea_cons (ev_var rfl) (ea_cons (ev_var rfl) (ea_cons (ev_var rfl) ea_nil))) (fun H1 e1 => ⟨⟨z, z2, x, _, _, rfl, ex_t e1 hZ, ex_t e1 hZ2, hx.ex e1⟩, few⟩) (fun _ _ z => z)))) (fun hb H1 e1 => ?_) (fun hb H1 e1 => ?_)
    · refine s_retP (tv_tup (K := K) (xs := [.str "form"]) (ea_cons ev_c ea_nil) (by show 1 ≤ 100000; decide)) fun r H2 e2 ⟨t, hr, ht⟩ => q _ H2 (e1.trans e2) ?_
      rw [leadW, if_neg (by rw [Bool.not_eq_true'] at hb; rw [hb]; decide), hr]
      exact .tup ht (.cons (.str _) .nil)
    · rw [Bool.not_eq_false'] at hb
      obtain ⟨a, rfl, ha, lf, low⟩ := form_nats hx hb
      rw [leadW, if_pos hb] at q
      refine q_asgP (ep_call (p, p2, natsOf d) (ea_cons (ev_var rfl) (ea_cons (ev_var rfl) (ea_cons (ev_var rfl) (ea_cons (ev_var rfl) ea_nil)))) (fun H2 e2 => ⟨⟨_, _, _, a, rfl, ⟨hm.1.ex (e1.trans e2), hm.2.ex (e1.trans e2)⟩, hw.ex (e1.trans e2), sq_of ((e1.trans e2) _ _ ha)⟩, ok, ok2, es, lf, low⟩)) fun r H2 e2 hr => ?_
      replace hr : OddV K H2 r (fod p p2 (natsOf d)) := hr
      cases ho : fod p p2 (natsOf d) with
      | none =>
        rw [ho] at hr q
        have hr2 : r = .non := hr
        subst hr2
        refine s_ret (ev_if (b := true) ?_ (fun _ => ev_c) (fun hb => by cases hb)) fun H8 e8 => q _ H8 (e1.trans (e2.trans e8)) .non
        exact fun H7 e7 Q q => ⟨_, rfl, rfl, _, rfl, q H7 (Ex.refl H7)⟩
      | some cc =>
        rw [ho] at hr q
        obtain ⟨t, y, rfl, ht, hy⟩ := hr
        refine do_ret (do_ifX (b := false) (fun H8 e8 Q8 q8 => ⟨_, rfl, rfl, _, rfl, q8 H8 (Ex.refl H8)⟩) (fun hb => by cases hb) (fun _ H8 e8 => ?_))
        refine eu_tup (vs := [.str "cell", .str cc.1, y]) (ea_cons ev_c (ea_cons (ev_op (ev_var rfl) ev_c (rv_ixT (K := K) (ex_t e8 ht) (atI_vi (k := 0) rfl))) (ea_cons (ev_op (ev_var rfl) ev_c (rv_ixT (K := K) (ex_t e8 ht) (atI_vi (k := 1) rfl))) ea_nil))) (by show 3 ≤ 100000; decide) H8 (Ex.refl _) _ fun r9 H9 _ e9 hr9 => q _ H9 (e1.trans (e2.trans (e8.trans e9))) (.tup (st_of hr9) (.cons (.str _) (.cons (.str _) (.cons (Nats.dp (hy.ex (e8.trans e9))) .nil))))
def sp_lead_judged (K : PySem.W.Frag) : Sp := sp_lead_wrong K
theorem c_lead_judged (T : Txt mg) (D : Df K mg "lead_judged" s_lead_judged ["signature", "one", "other", "thing"]) (c_need_two_models : Cl P w K mg base 8 "need_two_models" (sp_need_two K)) (c_lead_wrong : Cl P w K mg base 5 "lead_wrong" (sp_lead_wrong K)) : Cl P w K mg base 9 "lead_judged" (sp_lead_judged K) := by
  refine cl_of (k := 8) D sc_lead_judged (fun vs H Q E h => ?_) (fun f cdv A outer s H vs Q E hr h => ?_)
  · obtain ⟨z, ⟨⟨u, v, w, x, rfl, _⟩, _⟩, _⟩ := h
    rfl
  · obtain ⟨⟨⟨p0, c0⟩, p, p2, d⟩, ⟨⟨u, v, w, x, rfl, hm, hw, hx⟩, ok, ok2, es, few⟩, q⟩ := h
    refine ⟨_, (pss_cons (ps_expr (pe_cl c_need_two_models hr (by first | decide | omega) (by rfl) (pa_cons (pv 0) (pa_cons (pv 1) (pa_cons (pv 2) pa_nil)))))
      (pss_one (ps_ret (pe_cl c_lead_wrong hr (by first | decide | omega) (by rfl) (pa_cons (pv 0) (pa_cons (pv 1) (pa_cons (pv 2) (pa_cons (pv 3) pa_nil)))))))), ?_⟩
    replace hm : MA K H u v p := hm
    replace hw : Mdl K H w p2.2.1 p2.2.2 := hw
    replace hx : Dz K p0 c0 H x d := hx
    refine q_drop (v := .non) (ev_callV (p, p2) (ea_cons (ev_var rfl) (ea_cons (ev_var rfl) (ea_cons (ev_var rfl) ea_nil))) (fun H1 e1 => ⟨⟨_, _, _, rfl, hm.ex e1, hw.ex e1⟩, ok, ok2, es⟩) (fun _ _ p => p)) fun H1 e1 => ?_
    exact s_retP (ep_call ((p0, c0), p, p2, d) (ea_cons (ev_var rfl) (ea_cons (ev_var rfl) (ea_cons (ev_var rfl) (ea_cons (ev_var rfl) ea_nil)))) (fun H2 e2 => ⟨⟨_, _, _, _, rfl, hm.ex (e1.trans e2), hw.ex (e1.trans e2), hx.ex (e1.trans e2)⟩, ok, ok2, es, few⟩)) fun r H2 e2 hr => q _ H2 (e1.trans e2) hr
end
end K73
end
section
namespace K73
open PySem PySem.Spec PyProof.Rows L2 Evl RZ Dw M20 M25 CL LD
/-- the two classes of errors: TooMany at C, DeedError at G -/
structure ErT (K : PySem.W.Frag) (mg : Str → Option Value) (C G : Addr) : Prop where
  c : ExcT K mg "TooMany" C
  g : mg "DeedError" = some (.ref G)
  xs : PySem.W.exmOne K (.ref C) (.ref G) = some true
  ht : PySem.W.kitOne K (.ref C) (.ref C) = some true
  hv : PySem.W.kitOne K (.ref C) (.type "ValueError") = some true
section
variable {P : Program} {w : World} {K : PySem.W.Frag} {mg : Str → Option Value} {base : Heap} {σ : L2.St} {H : Hp} {C G : Addr}
def Two (K : PySem.W.Frag) (p : MArg × MArg) (vs : List V) (H : Hp) : Prop := (∃ u v w, vs = [u, v, w] ∧ MA K H u v p.1 ∧ Mdl K H w p.2.2.1 p.2.2.2) ∧ MOk p.1 ∧ MOk p.2 ∧ p.2.1 = p.1.1
def PrOk (K : PySem.W.Frag) (p : MArg × MArg) (vs : List V) (H : Hp) : Prop := Two K p vs H ∧ p.1.2.1 * p.2.2.1 ≤ 6
def PrBig (K : PySem.W.Frag) (p : MArg × MArg) (vs : List V) (H : Hp) : Prop := Two K p vs H ∧ 6 < p.1.2.1 * p.2.2.1
theorem Two.ex {p : MArg × MArg} {vs : List V} {H H' : Hp} (e : Ex H H') (h : Two K p vs H) : Two K p vs H' := let ⟨⟨u, v, w, q, a, b⟩, r⟩ := h; ⟨⟨u, v, w, q, a.ex e, b.ex e⟩, r⟩
theorem do_try {W0 : Ends → WX} {sp : Sp} {ta : TA} {tz : TS} {D : Ends} (h : ta σ H fun vs H1 => sp vs H1 (fun _ H2 => tz D σ H2) (WE (W0 { D with nx := tz D }) σ)) : tSeq (fun D σ H => tDrop (tCallS sp (fun σ => WE (W0 D) σ) ta) D σ H) tz D σ H := h
theorem do_callS {sp : Sp} {E : L2.St → XK} {ta : TA} {D : Ends} (h : ta σ H fun vs H1 => sp vs H1 (fun _ H2 => D.nx σ H2) (E σ)) : tDrop (tCallS sp E ta) D σ H := h
def sp_need_product (K : PySem.W.Frag) : Sp := spX (PrOk K) (fun _ v _ => v = .non)
theorem ev_size {σ : L2.St} {H : Hp} {i : Nat} {v : V} {n : Nat} {ts : List (List Nat)} (hi : σ[i]? = some (some v)) (h : Mdl K H v n ts) : Ev (tOp (rIxT K) (tVar i) (tC (.int 0))) σ H (vi n) := by
  obtain ⟨z, tv, rfl, hZ, _⟩ := h
  exact ev_op (ev_var hi) ev_c (rv_ixT (K := K) hZ (atI_vi (k := 0) rfl))
theorem c_need_product (T : Txt mg) (D : Df K mg "need_product" s_need_product ["signature", "one", "other"]) (c_need_two_models : Cl P w K mg base 8 "need_two_models" (sp_need_two K)) : Cl P w K mg base 9 "need_product" (sp_need_product K) := by
  refine cl_of (k := 8) D sc_need_product (fun vs H Q E h => ?_) (fun f cdv A outer s H vs Q E hr h => ?_)
  · obtain ⟨p, ⟨⟨⟨u, v, w, rfl, _⟩, _⟩, _⟩, _⟩ := h
    rfl
  · obtain ⟨⟨p, p2⟩, ⟨⟨⟨u, v, w, rfl, hm, hw⟩, ok, ok2, es⟩, le⟩, q⟩ := h
    refine ⟨_, (pss_cons (ps_expr (pe_cl c_need_two_models hr (by first | decide | omega) (by rfl) (pa_cons (pv 0) (pa_cons (pv 1) (pa_cons (pv 2) pa_nil)))))
      (pss_one (ps_if (pt_cmpR op_gt (pe_op op_mul (pe_ix ix_tup (pv 1) pe_int (fun _ _ => rfl)) (pe_ix ix_tup (pv 2) pe_int (fun _ _ => rfl))) (pe_gi (by rfl) T.c_MOST_SIZE) (nomark _))
        (pss_one ps_never)
        pss_nil))), ?_⟩
    replace hm : MA K H u v p := hm
    replace hw : Mdl K H w p2.2.1 p2.2.2 := hw
    replace le : p.2.1 * p2.2.1 ≤ 6 := le
    have n6 : p.2.1 ≤ 6 := ok.2.n6
    refine q_drop (v := .non) (ev_callV (p, p2) (ea_cons (ev_var rfl) (ea_cons (ev_var rfl) (ea_cons (ev_var rfl) ea_nil))) (fun H1 e1 => ⟨⟨_, _, _, rfl, hm.ex e1, hw.ex e1⟩, ok, ok2, es⟩) (fun _ _ p => p)) fun H1 e1 => ?_
    refine s_when (b := false) (et_is (et_test (ev_op (ev_mulM (a := p.2.1) (b := p2.2.1) (ev_size rfl (hm.2.ex e1)) (ev_size rfl (hw.ex e1)) (by omega)) ev_c rv_I0)) ?_) (fun hb => by cases hb) (fun _ H2 e2 => q _ H2 (e1.trans e2) rfl)
    show decide ((6 : Int) < ((p.2.1 * p2.2.1 : Nat) : Int)) = false
    exact decide_eq_false (by omega)
theorem c_need_productX (T : Txt mg) (D : Df K mg "need_product" s_need_product ["signature", "one", "other"]) (er : ErT K mg C G) (c_need_two_models : Cl P w K mg base 8 "need_two_models" (sp_need_two K)) : ClX P w K mg base 9 "need_product" (spE C (PrBig K)) := by
  refine clx_of (k := 8) D sc_need_product (fun vs H Q E h => ?_) (fun f cdv A outer s H vs Q E hr h => ?_)
  · obtain ⟨p, ⟨⟨⟨u, v, w, rfl, _⟩, _⟩, _⟩, _⟩ := h
    rfl
  · obtain ⟨⟨p, p2⟩, ⟨⟨⟨u, v, w, rfl, hm, hw⟩, ok, ok2, es⟩, le⟩, q⟩ := h
    refine ⟨_, (pss_cons (ps_expr (pe_cl c_need_two_models hr (by first | decide | omega) (by rfl) (pa_cons (pv 0) (pa_cons (pv 1) (pa_cons (pv 2) pa_nil)))))
      (pss_one (ps_if (pt_cmpR op_gt (pe_op op_mul (pe_ix ix_tup (pv 1) pe_int (fun _ _ => rfl)) (pe_ix ix_tup (pv 2) pe_int (fun _ _ => rfl))) (pe_gi (by rfl) T.c_MOST_SIZE) (nomark _))
        (pss_one (ps_raise rfl (takes_of rfl rfl rfl rfl) (pmk_own PySem.F.excBase_ValueError er.c.q er.c.g er.c.k (raises_own er.c.c.hs er.c.t) (by rfl))))
        pss_nil))), ?_⟩
    replace hm : MA K H u v p := hm
    replace hw : Mdl K H w p2.2.1 p2.2.2 := hw
    replace le : 6 < p.2.1 * p2.2.1 := le
    have n6 : p.2.1 ≤ 6 := ok.2.n6
    refine q_drop (v := .non) (ev_callV (p, p2) (ea_cons (ev_var rfl) (ea_cons (ev_var rfl) (ea_cons (ev_var rfl) ea_nil))) (fun H1 e1 => ⟨⟨_, _, _, rfl, hm.ex e1, hw.ex e1⟩, ok, ok2, es⟩) (fun _ _ p => p)) fun H1 e1 => ?_
    refine s_when (b := true) (et_is (et_test (ev_op (ev_mulM (a := p.2.1) (b := p2.2.1) (ev_size rfl (hm.2.ex e1)) (ev_size rfl (hw.ex e1)) (by omega)) ev_c rv_I0)) ?_) (fun _ H2 e2 => q H2 (e1.trans e2)) (fun hb => by cases hb)
    show decide ((6 : Int) < ((p.2.1 * p2.2.1 : Nat) : Int)) = true
    exact decide_eq_true (by omega)
theorem c_productX (T : Txt mg) (D : Df K mg "product" s_product ["signature", "one", "other"]) (c_need_productX : ClX P w K mg base 9 "need_product" (spE C (PrBig K))) : ClX P w K mg base 10 "product" (spE C (PrBig K)) := by
  refine clx_of (k := 9) D sc_product (fun vs H Q E h => ?_) (fun f cdv A outer s H vs Q E hr h => ?_)
  · obtain ⟨p, ⟨⟨⟨u, v, w, rfl, _⟩, _⟩, _⟩, _⟩ := h
    rfl
  · obtain ⟨p, ⟨hp, le⟩, q⟩ := h
    obtain ⟨u, v, w, hvs, _⟩ := id hp.1
    subst hvs
    refine ⟨_, (pss_cons (ps_expr (pe_clX c_need_productX (takes_of rfl rfl rfl rfl) hr (by first | decide | omega) (by rfl) (pa_cons (pv 0) (pa_cons (pv 1) (pa_cons (pv 2) pa_nil)))))
      (pss_cons (ps_set (i := 3) sc_product.nd rfl (.inl rfl) (pe_lst pa_nil))
      (pss_cons (ps_never)
      (pss_one (ps_ret (pe_tup (pa_cons (pe_op op_mul (pe_ix ix_tup (pv 1) pe_int (fun _ _ => rfl)) (pe_ix ix_tup (pv 2) pe_int (fun _ _ => rfl))) (pa_cons (pe_callTy call_tuple_of (by rfl) T.z_tuple (by decide +kernel) (pa_cons (pv 3) pa_nil)) pa_nil)))))))), ?_⟩
    exact do_try (W0 := fun _ => fun cls d _ H => E cls d H) (ea_cons (ev_var rfl) (ea_cons (ev_var rfl) (ea_cons (ev_var rfl) ea_nil)) H (Ex.refl _) _ fun H2 e2 => ⟨p, ⟨hp.ex e2, le⟩, fun H3 e3 => q H3 (e2.trans e3)⟩)
theorem c_sidesX (T : Txt mg) (D : Df K mg "sides" s_sides ["signature", "one", "other"]) (c_need_productX : ClX P w K mg base 9 "need_product" (spE C (PrBig K))) : ClX P w K mg base 10 "sides" (spE C (PrBig K)) := by
  refine clx_of (k := 9) D sc_sides (fun vs H Q E h => ?_) (fun f cdv A outer s H vs Q E hr h => ?_)
  · obtain ⟨p, ⟨⟨⟨u, v, w, rfl, _⟩, _⟩, _⟩, _⟩ := h
    rfl
  · obtain ⟨p, ⟨hp, le⟩, q⟩ := h
    obtain ⟨u, v, w, hvs, _⟩ := id hp.1
    subst hvs
    refine ⟨_, (pss_cons (ps_expr (pe_clX c_need_productX (takes_of rfl rfl rfl rfl) hr (by first | decide | omega) (by rfl) (pa_cons (pv 0) (pa_cons (pv 1) (pa_cons (pv 2) pa_nil)))))
      (pss_cons (ps_setLc (i := 3) (own := [("number", 4)]) (g := (gName 4)) (by rfl) sc_sides.nd rfl rfl (sw_true rfl rfl rfl (by decide +kernel)) (pi_range1 (by rfl) T.z_range (pa_cons (pe_op op_mul (pe_ix ix_tup (pv 1) pe_int (fun _ _ => rfl)) (pe_ix ix_tup (pv 2) pe_int (fun _ _ => rfl))) pa_nil)) (blkOk_by (own := [("number", 4)]) (N := ["signature", "one", "other", "pairs", "number", "pair"]) (sc := (defScope s_sides)) (by decide +kernel)) (fun _ _ _ _ _ => (pg_name (i := 4) sc_sides.nd rfl (.inl rfl))) (fun _ _ _ _ _ => pts_nil) (fun _ _ _ _ _ => (pe_callB call_divmod (by rfl) T.z_divmod (by decide +kernel) (pa_cons (pv 4) (pa_cons (pe_ix (ix_tupK K) (pv 2) pe_int (fun _ _ => rfl)) pa_nil)))))
      (pss_one (ps_ret (pe_tup (pa_cons (pe_lc (own := [("pair", 5)]) (g := (gName 5)) (by rfl) sc_sides.nd (pi_list (pv 3)) (blkOk_by (own := [("pair", 5)]) (N := ["signature", "one", "other", "pairs", "number", "pair"]) (sc := (defScope s_sides)) (by decide +kernel)) (fun _ _ _ _ _ => (pg_name (i := 5) sc_sides.nd rfl (.inl rfl))) (fun _ _ _ _ _ => pts_nil) (fun _ _ _ _ _ => (pe_ix (ix_tupK K) (pv 5) pe_int (fun _ _ => rfl)))) (pa_cons (pe_lc (own := [("pair", 5)]) (g := (gName 5)) (by rfl) sc_sides.nd (pi_list (pv 3)) (blkOk_by (own := [("pair", 5)]) (N := ["signature", "one", "other", "pairs", "number", "pair"]) (sc := (defScope s_sides)) (by decide +kernel)) (fun _ _ _ _ _ => (pg_name (i := 5) sc_sides.nd rfl (.inl rfl))) (fun _ _ _ _ _ => pts_nil) (fun _ _ _ _ _ => (pe_ix (ix_tupK K) (pv 5) pe_int (fun _ _ => rfl)))) pa_nil))))))), ?_⟩
    exact do_try (W0 := fun _ => fun cls d _ H => E cls d H) (ea_cons (ev_var rfl) (ea_cons (ev_var rfl) (ea_cons (ev_var rfl) ea_nil)) H (Ex.refl _) _ fun H2 e2 => ⟨p, ⟨hp.ex e2, le⟩, fun H3 e3 => q H3 (e2.trans e3)⟩)
end
end K73
end
section
namespace K73
open PySem PySem.Spec PyProof.Rows L2 Evl RZ Dw M20 M25 CL LD
def pT (n m : Nat) (sg : List (Str × Nat)) (ts us : List (List Nat)) (i : Nat) : List Nat := prodT n m (sg.getD i ("", 0)).2 (ts.getD i []) (us.getD i [])
def pTs (n m : Nat) (sg : List (Str × Nat)) (ts us : List (List Nat)) : List (List Nat) := (List.range sg.length).map (pT n m sg ts us)
/-- the product -/
def prd (p p2 : MArg) : MArg := (p.1, p.2.1 * p2.2.1, pTs p.2.1 p2.2.1 p.1 p.2.2 p2.2.2)
theorem getD_at {α : Type} {l : List α} {i : Nat} (d : α) (h : i < l.length) : l.getD i d = l[i] := by
  rw [List.getD_eq_getElem?_getD, List.getElem?_eq_getElem h]
  rfl
theorem prd_ok {p p2 : MArg} (ok : MOk p) (ok2 : MOk p2) (es : p2.1 = p.1) (le : p.2.1 * p2.2.1 ≤ 6) : MOk (prd p p2) := ⟨ok.1, ⟨Nat.mul_pos ok.2.n1 ok2.2.n1, le, by show (pTs _ _ _ _ _).length = _; unfold pTs; rw [List.length_map, List.length_range]; rfl, fun i h1 h2 => by
  replace h1 : i < p.1.length := h1
  show Tab (p.2.1 * p2.2.1) p.1[i].2 (pTs p.2.1 p2.2.1 p.1 p.2.2 p2.2.2)[i]
  have e0 : (pTs p.2.1 p2.2.1 p.1 p.2.2 p2.2.2)[i]? = some (pT p.2.1 p2.2.1 p.1 p.2.2 p2.2.2 i) := by
    unfold pTs
    rw [List.getElem?_map, List.getElem?_range h1]
    rfl
  have e1 : (pTs p.2.1 p2.2.1 p.1 p.2.2 p2.2.2)[i]? = some ((pTs p.2.1 p2.2.1 p.1 p.2.2 p2.2.2)[i]'h2) := List.getElem?_eq_getElem h2
  have e : (pTs p.2.1 p2.2.1 p.1 p.2.2 p2.2.2)[i]'h2 = pT p.2.1 p2.2.1 p.1 p.2.2 p2.2.2 i := Option.some.inj (e1.symm.trans e0)
  have l1 : i < p.2.2.length := by rw [ok.2.len]; exact h1
  have l3 : i < p2.1.length := by rw [es]; exact h1
  have l2 : i < p2.2.2.length := by rw [ok2.2.len]; exact l3
  rw [e]
  unfold pT
  rw [getD_at _ h1, getD_at _ l1, getD_at _ l2]
  have t2 := ok2.2.tab i l3 l2
  have e3 : p2.1[i]'l3 = p.1[i] := by simp only [es]
  rw [e3] at t2
  exact prodT_tab (ok.1.pl _ (List.getElem_mem h1)) ok2.2.n1 (ok.2.tab i h1 l1) t2⟩⟩
section
variable {P : Program} {w : World} {K : PySem.W.Frag} {mg : Str → Option Value} {base : Heap} {σ : L2.St} {H : Hp} {C G : Addr}
def sp_product_table (K : PySem.W.Frag) : Sp := spX (fun (z : (Nat × Nat) × Nat × List Nat × List Nat) vs H => (∃ v w, vs = [vi z.1.1, vi z.1.2, vi z.2.1, v, w] ∧ Nats K H v z.2.2.1 ∧ Nats K H w z.2.2.2) ∧ 1 ≤ z.1.2 ∧ z.1.1 * z.1.2 ≤ 6 ∧ 1 ≤ z.1.1 ∧ z.2.1 ≤ 2 ∧ Tab z.1.1 z.2.1 z.2.2.1 ∧ Tab z.1.2 z.2.1 z.2.2.2) (fun z v H => Nats K H v (prodT z.1.1 z.1.2 z.2.1 z.2.2.1 z.2.2.2))
theorem c_product_table (T : Txt mg) (D : Df K mg "product_table" s_product_table ["one", "other", "places", "first", "second"]) (c_rows_below : Cl P w K mg base 1 "rows_below" (sp_rows_below K)) (c_place_of_row : Cl P w K mg base 1 "place_of_row" (sp_place_of_row K)) : Cl P w K mg base 2 "product_table" (sp_product_table K) := by
  refine cl_of (k := 1) D sc_product_table (fun vs H Q E h => ?_) (fun f cdv A outer s H vs Q E hr h => ?_)
  · obtain ⟨z, ⟨⟨v, w, rfl, _⟩, _⟩, _⟩ := h
    rfl
  · obtain ⟨⟨⟨n, m⟩, pl, t1, t2⟩, ⟨⟨v, w, rfl, hv, hw⟩, m1, le, n1, p2, tb1, tb2⟩, q⟩ := h
    refine ⟨_, (pss_cons (ps_set (i := 5) sc_product_table.nd rfl (.inl rfl) (pe_lst pa_nil))
      (pss_cons (ps_for PassesOwn.never (by rfl) (pi_list (pe_cl c_rows_below hr (by first | decide | omega) (by rfl) (pa_cons (pe_op op_mul (pv 0) (pv 1)) (pa_cons (pv 2) pa_nil)))) (pg_name (i := 6) sc_product_table.nd rfl (.inl rfl))
        (pss_cons (ps_set (i := 7) sc_product_table.nd rfl (.inl rfl) (pe_ix ix_tup (pv 3) (pe_cl c_place_of_row hr (by first | decide | omega) (by rfl) (pa_cons (pv 0) (pa_cons (pe_lc (own := [("arg", 9)]) (g := (gName 9)) (by rfl) sc_product_table.nd (pi_tup (pv 6)) (blkOk_by (own := [("arg", 9)]) (N := ["one", "other", "places", "first", "second", "told", "args", "left", "right", "arg"]) (sc := (defScope s_product_table)) (by decide +kernel)) (fun _ _ _ _ _ => (pg_name (i := 9) sc_product_table.nd rfl (.inl rfl))) (fun _ _ _ _ _ => pts_nil) (fun _ _ _ _ _ => (pe_op op_fdiv (pv 9) (pv 1)))) pa_nil))) (fun _ _ => rfl)))
        (pss_cons (ps_set (i := 8) sc_product_table.nd rfl (.inl rfl) (pe_ix ix_tup (pv 4) (pe_cl c_place_of_row hr (by first | decide | omega) (by rfl) (pa_cons (pv 1) (pa_cons (pe_lc (own := [("arg", 9)]) (g := (gName 9)) (by rfl) sc_product_table.nd (pi_tup (pv 6)) (blkOk_by (own := [("arg", 9)]) (N := ["one", "other", "places", "first", "second", "told", "args", "left", "right", "arg"]) (sc := (defScope s_product_table)) (by decide +kernel)) (fun _ _ _ _ _ => (pg_name (i := 9) sc_product_table.nd rfl (.inl rfl))) (fun _ _ _ _ _ => pts_nil) (fun _ _ _ _ _ => (pe_op op_mod (pv 9) (pv 1)))) pa_nil))) (fun _ _ => rfl)))
        (pss_one (ps_expr (pe_bm PySem.F.plainAttrs_list PySem.F.slot_list_append PySem.F.type_list_append mt_append (pv 5) (pa_cons (pe_op op_add (pe_op op_mul (pv 7) (pv 1)) (pv 8)) pa_nil)))))))
      (pss_one (ps_ret (pe_callTy call_tuple_of (by rfl) T.z_tuple (by decide +kernel) (pa_cons (pv 5) pa_nil)))))), ?_⟩
    replace hv : Nats K H v t1 := hv
    replace hw : Nats K H w t2 := hw
    replace m1 : 1 ≤ m := m1
    replace n1 : 1 ≤ n := n1
    replace le : n * m ≤ 6 := le
    replace p2 : pl ≤ 2 := p2
    replace tb1 : Tab n pl t1 := tb1
    replace tb2 : Tab m pl t2 := tb2
    obtain ⟨a, rfl, ha⟩ := id hv
    obtain ⟨b, rfl, hb⟩ := id hw
    have n6 : n ≤ 6 := Nat.le_trans (Nat.le_mul_of_pos_right n m1) le
    have m6 : m ≤ 6 := Nat.le_trans (Nat.le_mul_of_pos_left m n1) le
    refine q_asgL (el_lst ea_nil (Nat.zero_le _)) fun D0 H1 nD' e1 hD => ?_
    show tSeq _ _ _ [some (vi n), some (vi m), some (vi pl), some (.ref a), some (.ref b), some (.ref D0), none, none, none, none] H1
    refine q_forLs (do_evP (ep_callF (n * m, pl) (ea_cons (ev_mulM (a := n) (b := m) (ev_var rfl) (ev_var rfl) (by omega)) (ea_cons (ev_var rfl) ea_nil)) (fun _ _ => ⟨rfl, le, p2⟩)) fun rv H2 e2 ⟨⟨ra, rvs, hra, hrl, prs⟩, nra⟩ => ⟨ra, hra, ⟨rvs, sq_of hrl⟩, ?_⟩)
    subst hra
    replace prs : Paired (Nats K H2) rvs (rows (n * m) pl) := prs
    have lrv := paired_len prs
    rw [rows_len'] at lrv
    have b36 := pow_36 le p2
    have e02 := e1.trans e2
    have raD : ra ≠ D0 := fun z => by have := nra _ rfl; rw [z, hD] at this; cases this
    refine qloops_list (K := K) (xs := rvs) (fun i σ H' => Ex H H' ∧ H' ra = some (.lst rvs) ∧ Paired (Nats K H') rvs (rows (n * m) pl) ∧ H' D0 = some (.lst (((prodT n m pl t1 t2).take i).map vi)) ∧ ∃ y6 y7 y8, σ = [some (vi n), some (vi m), some (vi pl), some (.ref a), some (.ref b), some (.ref D0), y6, y7, y8, none]) ⟨e02, hrl, prs, e2 _ _ hD, none, none, none, rfl⟩ (fun i σ' H' _ ⟨_, hr, _⟩ => sq_of hr) (fun i x σ' H3 hx ⟨e3, hr3, pr3, hD3, y6, y7, y8, hσ⟩ => ?_) (fun σ' H3 ⟨e3, hr3, pr3, hD3, y6, y7, y8, hσ⟩ => ?_)
    · subst hσ
      obtain ⟨row, hrow, xa, rfl, hxa⟩ := paired_at pr3 hx
      have hi := (List.getElem?_eq_some_iff.mp hx).1
      obtain ⟨lr, rl⟩ := rows_of (List.mem_iff_getElem?.mpr ⟨i, hrow⟩)
      have ld : (dv m row).length = pl := by unfold dv; rw [List.length_map, lr]
      have lm : (md m row).length = pl := by unfold md; rw [List.length_map, lr]
      have pd := plc_low (dv_low m1 rl) (by rw [ld]; exact p2)
      have pm := plc_low (md_low (r := row) m1) (by rw [lm]; exact p2)
      rw [ld] at pd
      rw [lm] at pm
      show tSeq _ _ _ [some (vi n), some (vi m), some (vi pl), some (.ref a), some (.ref b), some (.ref D0), some (.ref xa), y7, y8, none] H3
      have inner : ∀ {te : TE} {u : Nat → Nat} {H4 : Hp} {y7 y8 : Option V}, Ex H3 H4 → (∀ k H5, Ex H4 H5 → Ev te [some (vi n), some (vi m), some (vi pl), some (.ref a), some (.ref b), some (.ref D0), some (.ref xa), y7, y8, some (vi k)] H5 (vi (u k))) → EvL (tLc (iTup K (tVar 6)) (gName 9) tYes te [9]) [some (vi n), some (vi m), some (vi pl), some (.ref a), some (.ref b), some (.ref D0), some (.ref xa), y7, y8, none] H4 ((row.map u).map vi) := fun {te u H4 y7 y8} e4 hu => by
        have z := el_lcT (K := K) (tl := tVar 6) (te := te) (σ := [some (vi n), some (vi m), some (vi pl), some (.ref a), some (.ref b), some (.ref D0), some (.ref xa), y7, y8, none]) (j := 9) (vs := [9]) (ev_var rfl) (ex_t e4 hxa) (fun i => vi (u (row.getD i 0))) (by rw [List.length_map]; omega) (fun _ => rfl) (fun i x H5 e5 hx => by
          rw [List.getElem?_map] at hx
          cases hk : row[i]? with
          | none => rw [hk] at hx; cases hx
          | some k =>
            rw [hk] at hx
            cases Option.some.inj hx
            have : row.getD i 0 = k := by rw [List.getD_eq_getElem?_getD, hk]; rfl
            rw [this]
            exact hu k H5 e5)
        have e : (List.range (row.map vi).length).map (fun i => vi (u (row.getD i 0))) = (row.map u).map vi := by
          rw [List.length_map]
          have h1 : (List.range row.length).map (fun i => vi (u (row.getD i 0))) = (((List.range row.length).map fun i => row.getD i 0).map u).map vi := by
            rw [List.map_map, List.map_map]
            rfl
          rw [h1, Dw.range_getD]
        rw [e] at z
        exact z
      have place : ∀ {te : TE} {u : Nat → Nat} {H4 : Hp} {y7 y8 : Option V} {i0 n' : Nat}, Ex H3 H4 → (∀ k H5, Ex H4 H5 → Ev te [some (vi n), some (vi m), some (vi pl), some (.ref a), some (.ref b), some (.ref D0), some (.ref xa), y7, y8, some (vi k)] H5 (vi (u k))) → [some (vi n), some (vi m), some (vi pl), some (.ref a), some (.ref b), some (.ref D0), some (.ref xa), y7, y8, none][i0]? = some (some (vi n')) → n' ≤ 6 → (∀ x ∈ row.map u, x < n') →
          Ev (tCall (sp_place_of_row K) [] E0 (tCons (tVar i0) (tCons (tLc (iTup K (tVar 6)) (gName 9) tYes te [9]) tNil))) [some (vi n), some (vi m), some (vi pl), some (.ref a), some (.ref b), some (.ref D0), some (.ref xa), y7, y8, none] H4 (vi (plc n' (row.map u))) := fun {te u H4 y7 y8 i0 n'} e4 hu hi0 n6' low H5 e5 Q' q' =>
        do_cons (do_ev (ev_var hi0) fun H6 e6 => do_cons (inner e4 hu H6 (e5.trans e6) _ fun l H7 nl e7 hl => do_nil ⟨(n', row.map u), ⟨⟨l, rfl, hl⟩, n6', by show (row.map u).length ≤ 2; rw [List.length_map]; omega, low⟩, fun v H8 e8 hv => by rw [hv]; exact q' H8 (e6.trans (e7.trans e8))⟩))
      refine q_asg (v := vi (g t1 (plc n (dv m row)))) (ev_op (ev_var rfl) (place (u := fun k => k / m) (n' := n) (Ex.refl _) (fun k H5 e5 => ev_divM (ev_var rfl) (ev_var rfl) (by omega) (by omega)) rfl n6 (dv_low m1 rl)) (rv_ixT (K := K) (ex_t e3 ha) (atI_vi (k := plc n (dv m row)) (by rw [List.getElem?_map, g_eq (by rw [tb1.len]; exact pd)]; rfl)))) fun H4 e4 => ?_
      refine q_asg (v := vi (g t2 (plc m (md m row)))) (ev_op (ev_var rfl) (place (u := fun k => k % m) (n' := m) e4 (fun k H5 e5 => ev_modM (ev_var rfl) (ev_var rfl) (by omega)) rfl m6 (md_low m1)) (rv_ixT (K := K) (ex_t (e3.trans e4) hb) (atI_vi (k := plc m (md m row)) (by rw [List.getElem?_map, g_eq (by rw [tb2.len]; exact pm)]; rfl)))) fun H5 e5 => ?_
      have g1 := tb1.low _ pd
      have g2 := tb2.low _ pm
      show tDrop _ _ [some (vi n), some (vi m), some (vi pl), some (.ref a), some (.ref b), some (.ref D0), some (.ref xa), some (vi (g t1 (plc n (dv m row)))), some (vi (g t2 (plc m (md m row)))), none] H5
      have e35 := e4.trans e5
      refine s_appP (e35 _ _ hD3) (ev_var rfl) (ep_ev (P := fun v _ => v = vi (g t1 (plc n (dv m row)) * m + g t2 (plc m (md m row)))) (ev_addM (ev_mulM (ev_var rfl) (ev_var rfl) (by omega)) (ev_var rfl)) fun _ _ => rfl) (by rw [List.length_map, List.length_take, prodT_len]; omega) fun v H6 e6 hv => ?_
      subst hv
      have e36 := e35.trans e6
      have hD6 := e36 _ _ hD3
      refine ⟨(e3.trans e36).mut (by exact nD'), by rw [upd_ne raD]; exact e36 _ _ hr3, paired_imp (fun _ _ zz => Nats.et (ET.trans (Dw.Ex.et e36) (ET.refl.upd hD6)) zz) pr3, ?_, _, _, _, rfl⟩
      rw [upd_same, List.take_add_one, prodT_at hrow, List.map_append]
      rfl
    · subst hσ
      rw [lrv, List.take_of_length_le (by rw [prodT_len]; exact Nat.le_refl _)] at hD3
      exact s_retU (eu_tupL (K := K) (ev_var rfl) (sq_of hD3)) fun r H4 nr e4 hr4 => q _ H4 (e3.trans e4) ⟨r, rfl, st_of hr4⟩
end
end K73
end
section
namespace K73
open PySem PySem.Spec PyProof.Rows L2 Evl RZ Dw M20 M25 CL LD
section
variable {P : Program} {w : World} {K : PySem.W.Frag} {mg : Str → Option Value} {base : Heap} {σ : L2.St} {H : Hp} {C G : Addr}
def sp_product (K : PySem.W.Frag) : Sp := spX (PrOk K) (fun p v H => Mdl K H v (prd p.1 p.2).2.1 (prd p.1 p.2).2.2)
theorem c_product (T : Txt mg) (D : Df K mg "product" s_product ["signature", "one", "other"]) (c_need_product : Cl P w K mg base 9 "need_product" (sp_need_product K)) (c_product_table : Cl P w K mg base 2 "product_table" (sp_product_table K)) : Cl P w K mg base 10 "product" (sp_product K) := by
  refine cl_of (k := 9) D sc_product (fun vs H Q E h => ?_) (fun f cdv A outer s H vs Q E hr h => ?_)
  · obtain ⟨p, ⟨⟨⟨u, v, w, rfl, _⟩, _⟩, _⟩, _⟩ := h
    rfl
  · obtain ⟨⟨p, p2⟩, hpr, q⟩ := h
    obtain ⟨⟨⟨u, v, w, rfl, hm, hw⟩, ok, ok2, es⟩, le⟩ := id hpr
    refine ⟨_, (pss_cons (ps_expr (pe_cl c_need_product hr (by first | decide | omega) (by rfl) (pa_cons (pv 0) (pa_cons (pv 1) (pa_cons (pv 2) pa_nil)))))
      (pss_cons (ps_set (i := 3) sc_product.nd rfl (.inl rfl) (pe_lst pa_nil))
      (pss_cons (ps_for PassesOwn.never (by rfl) (pi_zip3 (by rfl) T.z_zip (pa_cons (pv 0) (pa_cons (pe_ix ix_tup (pv 1) pe_int (fun _ _ => rfl)) (pa_cons (pe_ix ix_tup (pv 2) pe_int (fun _ _ => rfl)) pa_nil)))) (pg_tup (by rfl) (pgs_cons (pg_tup (by rfl) (pgs_cons (pg_name (i := 4) sc_product.nd rfl (.inl rfl)) (pgs_cons (pg_name (i := 5) sc_product.nd rfl (.inl rfl)) pgs_nil))) (pgs_cons (pg_name (i := 6) sc_product.nd rfl (.inl rfl)) (pgs_cons (pg_name (i := 7) sc_product.nd rfl (.inl rfl)) pgs_nil))))
        (pss_one (ps_expr (pe_bm PySem.F.plainAttrs_list PySem.F.slot_list_append PySem.F.type_list_append mt_append (pv 3) (pa_cons (pe_cl c_product_table hr (by first | decide | omega) (by rfl) (pa_cons (pe_ix ix_tup (pv 1) pe_int (fun _ _ => rfl)) (pa_cons (pe_ix ix_tup (pv 2) pe_int (fun _ _ => rfl)) (pa_cons (pv 5) (pa_cons (pv 6) (pa_cons (pv 7) pa_nil)))))) pa_nil)))))
      (pss_one (ps_ret (pe_tup (pa_cons (pe_op op_mul (pe_ix ix_tup (pv 1) pe_int (fun _ _ => rfl)) (pe_ix ix_tup (pv 2) pe_int (fun _ _ => rfl))) (pa_cons (pe_callTy call_tuple_of (by rfl) T.z_tuple (by decide +kernel) (pa_cons (pv 3) pa_nil)) pa_nil)))))))), ?_⟩
    replace hm : MA K H u v p := hm
    replace hw : Mdl K H w p2.2.1 p2.2.2 := hw
    replace le : p.2.1 * p2.2.1 ≤ 6 := le
    replace es : p2.1 = p.1 := es
    have n6 : p.2.1 ≤ 6 := ok.2.n6
    obtain ⟨a, us, rfl, hS, hP⟩ := id hm.1
    obtain ⟨z, tv, rfl, hZ, hT⟩ := id hm.2
    obtain ⟨b, tvs, rfl, hB, hR⟩ := id hT
    obtain ⟨z2, tv2, rfl, hZ2, hT2⟩ := id hw
    obtain ⟨b2, tvs2, rfl, hB2, hR2⟩ := id hT2
    replace hR : Paired (Nats K H) tvs p.2.2 := hR
    replace hR2 : Paired (Nats K H) tvs2 p2.2.2 := hR2
    replace hP : Paired (Deed K H) us p.1 := hP
    have lS : us.length = p.1.length := paired_len hP
    have lT : tvs.length = p.2.2.length := paired_len hR
    have lT2 : tvs2.length = p2.2.2.length := paired_len hR2
    have lo : p.2.2.length = p.1.length := ok.2.len
    have lo2 : p2.2.2.length = p.1.length := by rw [← es]; exact ok2.2.len
    have l4 : p.1.length ≤ 4 := ok.1.l4
    refine q_drop (v := .non) (ev_callV (p, p2) (ea_cons (ev_var rfl) (ea_cons (ev_var rfl) (ea_cons (ev_var rfl) ea_nil))) (fun H1 e1 => ⟨⟨⟨_, _, _, rfl, hm.ex e1, hw.ex e1⟩, ok, ok2, es⟩, le⟩) (fun _ _ p => p)) fun H1 e1 => ?_
    refine q_asgL (el_lst ea_nil (Nat.zero_le _)) fun D0 H2 nD e2 hD => ?_
    have e02 := e1.trans e2
    show tSeq _ _ _ [some (.ref a), some (.ref z), some (.ref z2), some (.ref D0), none, none, none, none] H2
    refine q_zip3s (ea_cons (ev_var rfl) (ea_cons (ev_op (ev_var rfl) ev_c (rv_ixT (K := K) (ex_t e02 hZ) (atI_vi (k := 1) rfl))) (ea_cons (ev_op (ev_var rfl) ev_c (rv_ixT (K := K) (ex_t e02 hZ2) (atI_vi (k := 1) rfl))) ea_nil)) H2 (Ex.refl _) _ fun H3 e3 => ⟨a, b, b2, us, tvs, tvs2, rfl, ex_t (e02.trans e3) hS, ex_t (e02.trans e3) hB, ex_t (e02.trans e3) hB2, ?_⟩)
    have e03 := e02.trans e3
    refine qloops_zip3 (K := K) (xs := us) (ys := tvs) (zs := tvs2) (by omega) (by omega) (fun i σ H' => Ex H H' ∧ (∃ ws, H' D0 = some (.lst ws) ∧ ws.length = i ∧ Paired (Nats K H') ws ((pTs p.2.1 p2.2.1 p.1 p.2.2 p2.2.2).take i)) ∧ ∃ y4 y5 y6 y7, σ = [some (.ref a), some (.ref z), some (.ref z2), some (.ref D0), y4, y5, y6, y7])
      ⟨e03, ⟨[], e3 _ _ hD, rfl, .nil⟩, none, none, none, none, rfl⟩ (fun i σ' H' _ ⟨e, _⟩ => ⟨ex_t e hS, ex_t e hB, ex_t e hB2⟩) (fun i x y x3 t σ' H4 hx hy hx3 ⟨e4, ⟨ws, hws, lw, pw⟩, y4, y5, y6, y7, hσ⟩ nt => ?_) (fun σ' H4 ⟨e4, ⟨ws, hws, lw, pw⟩, y4, y5, y6, y7, hσ⟩ => ?_)
    · subst hσ
      obtain ⟨d, hd, c, rfl, hc⟩ := paired_at hP hx
      obtain ⟨t1, ht1, ta, rfl, hta⟩ := paired_at hR hy
      obtain ⟨t2, ht2, tb, rfl, htb⟩ := paired_at hR2 hx3
      have il : i < p.1.length := (List.getElem?_eq_some_iff.mp hd).1
      have e5 : Ex H4 (upd H4 t (.tup [.ref c, .ref ta, .ref tb])) := Ex.new nt
      have e05 := e4.trans e5
      refine ⟨t, _, rfl, st_of upd_same, rfl, _, _, rfl, c, _, rfl, ex_t e05 hc, rfl, _, _, rfl, _, _, rfl, rfl, _, _, rfl, _, _, rfl, rfl, ?_⟩
      show tDrop _ _ [some (.ref a), some (.ref z), some (.ref z2), some (.ref D0), some (.str d.1), some (vi d.2), some (.ref ta), some (.ref tb)] (upd H4 t (.tup [.ref c, .ref ta, .ref tb]))
      have i1 : i < p.2.2.length := by omega
      have i2 : i < p2.2.2.length := by omega
      have i3 : i < p2.1.length := by rw [es]; exact il
      have ed : p.1[i] = d := Option.some.inj ((List.getElem?_eq_getElem il).symm.trans hd)
      have e1' : p.2.2[i] = t1 := Option.some.inj ((List.getElem?_eq_getElem i1).symm.trans ht1)
      have e2' : p2.2.2[i] = t2 := Option.some.inj ((List.getElem?_eq_getElem i2).symm.trans ht2)
      have tb1 := ok.2.tab i il i1
      have tb2 := ok2.2.tab i i3 i2
      have e3' : p2.1[i]'i3 = p.1[i] := by simp only [es]
      have p2' := ok.1.pl d (List.mem_iff_getElem?.mpr ⟨i, hd⟩)
      rw [e3'] at tb2
      replace tb1 : Tab p.2.1 d.2 t1 := by rw [← ed, ← e1']; exact tb1
      replace tb2 : Tab p2.2.1 d.2 t2 := by rw [← ed, ← e2']; exact tb2
      refine s_appP (e5 _ _ hws) (ev_var rfl) (ep_call ((p.2.1, p2.2.1), d.2, t1, t2) (ea_cons (ev_size (n := p.2.1) rfl (hm.2.ex e05)) (ea_cons (ev_size (n := p2.2.1) rfl (hw.ex e05)) (ea_cons (ev_var rfl) (ea_cons (ev_var rfl) (ea_cons (ev_var rfl) ea_nil))))) (fun H6 e6 => ⟨⟨_, _, rfl, ⟨ta, rfl, ex_t (e05.trans e6) hta⟩, ⟨tb, rfl, ex_t (e05.trans e6) htb⟩⟩, ok2.2.n1, le, ok.2.n1, p2', tb1, tb2⟩)) (by omega) fun v H6 e6 hv => ?_
      replace hv : Nats K H6 v (prodT p.2.1 p2.2.1 d.2 t1 t2) := hv
      have hws6 := (e5.trans e6) _ _ hws
      have et : ET K H4 (upd H6 D0 (.lst (ws ++ [v]))) := ET.trans (Dw.Ex.et (e5.trans e6)) (ET.refl.upd hws6)
      refine ⟨(e05.trans e6).mut (fresh_back e1 nD), ⟨ws ++ [v], upd_same, by rw [List.length_append, lw]; rfl, ?_⟩, _, _, _, _, rfl⟩
      have e0 : (pTs p.2.1 p2.2.1 p.1 p.2.2 p2.2.2)[i]? = some (prodT p.2.1 p2.2.1 d.2 t1 t2) := by
        unfold pTs
        rw [List.getElem?_map, List.getElem?_range il]
        show some (pT _ _ _ _ _ i) = _
        unfold pT
        rw [getD_at _ il, getD_at _ i1, getD_at _ i2, ed, e1', e2']
      rw [List.take_add_one, e0]
      exact paired_snoc' (R := Nats K (upd H6 D0 (.lst (ws ++ [v])))) (x := v) (y := prodT p.2.1 p2.2.1 d.2 t1 t2) (hv.et (ET.refl.upd hws6)) (paired_imp (fun _ _ zz => Nats.et et zz) pw)
    · subst hσ
      rw [lS, List.take_of_length_le (by unfold pTs; rw [List.length_map, List.length_range]; exact Nat.le_refl _)] at pw
      refine do_ret (do_tup (do_cons (do_ev (v := vi (p.2.1 * p2.2.1)) (ev_mulM (ev_size (n := p.2.1) rfl (hm.2.ex e4)) (ev_size (n := p2.2.1) rfl (hw.ex e4)) (by omega)) fun H5 e5 => do_cons (eu_tupL (K := K) (ev_var rfl) (sq_of (e5 _ _ hws)) H5 (Ex.refl _) _ fun r H6 nr e6 hr6 => do_nil ⟨by show 2 ≤ sizeLine; decide, fun r2 nr2 => ?_⟩))))
      have e7 : Ex H6 (upd H6 r2 (.tup [vi (p.2.1 * p2.2.1), .ref r])) := Ex.new nr2
      exact q _ _ (e4.trans (e5.trans (e6.trans e7))) ⟨r2, .ref r, rfl, st_of upd_same, r, ws, rfl, st_of (e7 _ _ hr6), paired_imp (fun _ _ zz => zz.ex (e5.trans (e6.trans e7))) pw⟩
def dmod (m : Nat) (k : Nat) : List Nat := [k / m, k % m]
def sp_sides (K : PySem.W.Frag) : Sp := fun vs H Q _ => ∃ p : MArg × MArg, PrOk K p vs H ∧ ∀ t l1 l2 H', Ex H H' → SqT K H' t [.ref l1, .ref l2] → H l1 = none → H l2 = none → l1 ≠ l2 → H' l1 = some (.lst ((dv p.2.2.1 (List.range (p.1.2.1 * p.2.2.1))).map vi)) → H' l2 = some (.lst ((md p.2.2.1 (List.range (p.1.2.1 * p.2.2.1))).map vi)) → Q (.ref t) H'
theorem c_sides (T : Txt mg) (D : Df K mg "sides" s_sides ["signature", "one", "other"]) (c_need_product : Cl P w K mg base 9 "need_product" (sp_need_product K)) : Cl P w K mg base 10 "sides" (sp_sides K) := by
  refine cl_of (k := 9) D sc_sides (fun vs H Q E h => ?_) (fun f cdv A outer s H vs Q E hr h => ?_)
  · obtain ⟨p, ⟨⟨⟨u, v, w, rfl, _⟩, _⟩, _⟩, _⟩ := h
    rfl
  · obtain ⟨⟨p, p2⟩, hpr, q⟩ := h
    obtain ⟨⟨⟨u, v, w, rfl, hm, hw⟩, ok, ok2, es⟩, le⟩ := id hpr
    refine ⟨_, (pss_cons (ps_expr (pe_cl c_need_product hr (by first | decide | omega) (by rfl) (pa_cons (pv 0) (pa_cons (pv 1) (pa_cons (pv 2) pa_nil)))))
      (pss_cons (ps_setLc (i := 3) (own := [("number", 4)]) (g := (gName 4)) (by rfl) sc_sides.nd rfl rfl (sw_true rfl rfl rfl (by decide +kernel)) (pi_range1 (by rfl) T.z_range (pa_cons (pe_op op_mul (pe_ix ix_tup (pv 1) pe_int (fun _ _ => rfl)) (pe_ix ix_tup (pv 2) pe_int (fun _ _ => rfl))) pa_nil)) (blkOk_by (own := [("number", 4)]) (N := ["signature", "one", "other", "pairs", "number", "pair"]) (sc := (defScope s_sides)) (by decide +kernel)) (fun _ _ _ _ _ => (pg_name (i := 4) sc_sides.nd rfl (.inl rfl))) (fun _ _ _ _ _ => pts_nil) (fun _ _ _ _ _ => (pe_callB call_divmod (by rfl) T.z_divmod (by decide +kernel) (pa_cons (pv 4) (pa_cons (pe_ix (ix_tupK K) (pv 2) pe_int (fun _ _ => rfl)) pa_nil)))))
      (pss_one (ps_ret (pe_tup (pa_cons (pe_lc (own := [("pair", 5)]) (g := (gName 5)) (by rfl) sc_sides.nd (pi_list (pv 3)) (blkOk_by (own := [("pair", 5)]) (N := ["signature", "one", "other", "pairs", "number", "pair"]) (sc := (defScope s_sides)) (by decide +kernel)) (fun _ _ _ _ _ => (pg_name (i := 5) sc_sides.nd rfl (.inl rfl))) (fun _ _ _ _ _ => pts_nil) (fun _ _ _ _ _ => (pe_ix (ix_tupK K) (pv 5) pe_int (fun _ _ => rfl)))) (pa_cons (pe_lc (own := [("pair", 5)]) (g := (gName 5)) (by rfl) sc_sides.nd (pi_list (pv 3)) (blkOk_by (own := [("pair", 5)]) (N := ["signature", "one", "other", "pairs", "number", "pair"]) (sc := (defScope s_sides)) (by decide +kernel)) (fun _ _ _ _ _ => (pg_name (i := 5) sc_sides.nd rfl (.inl rfl))) (fun _ _ _ _ _ => pts_nil) (fun _ _ _ _ _ => (pe_ix (ix_tupK K) (pv 5) pe_int (fun _ _ => rfl)))) pa_nil))))))), ?_⟩
    replace hm : MA K H u v p := hm
    replace hw : Mdl K H w p2.2.1 p2.2.2 := hw
    replace le : p.2.1 * p2.2.1 ≤ 6 := le
    replace es : p2.1 = p.1 := es
    have n6 : p.2.1 ≤ 6 := ok.2.n6
    have m6 : p2.2.1 ≤ 6 := ok2.2.n6
    have m1 : 1 ≤ p2.2.1 := ok2.2.n1
    refine q_drop (v := .non) (ev_callV (p, p2) (ea_cons (ev_var rfl) (ea_cons (ev_var rfl) (ea_cons (ev_var rfl) ea_nil))) (fun H1 e1 => ⟨⟨⟨_, _, _, rfl, hm.ex e1, hw.ex e1⟩, ok, ok2, es⟩, le⟩) (fun _ _ p => p)) fun H1 e1 => ?_
    have le2 : p.2.1 * p2.2.1 ≤ 40000 := by omega
    refine do_set (do_elp (elp_lcR (n := p.2.1 * p2.2.1) (ea_cons (ev_mulM (ev_size (n := p.2.1) rfl (hm.2.ex e1)) (ev_size (n := p2.2.1) rfl (hw.ex e1)) (by omega)) ea_nil) le2 (fun _ => true) (fun v i H' => TV K H' v ((dmod p2.2.1 i).map vi)) (fun v i H H' e z => let ⟨a, q, s⟩ := z; ⟨a, q, e.et _ _ s⟩) (fun _ => rfl) (fun i H2 hi e2 => ⟨et_yes, fun _ => fun H3 e3 Q3 q3 => do_cb (do_cons (do_ev (v := vi i) (ev_var rfl) fun H4 e4 => do_cons (do_ev (v := vi p2.2.1) (ev_size rfl (hw.ex (e1.trans (e2.trans (e3.trans e4))))) fun H5 e5 => do_nil ⟨(i : Int), (p2.2.1 : Int), rfl, ⟨by omega, by omega⟩, fun r nr => q3 _ _ ((e4.trans e5).trans (Ex.new nr)) ⟨r, rfl, ?_⟩⟩)))⟩)) fun t ws H2 nt e2 ht hw2 => ?_)
    · have := st_of (K := K) (upd_same (H := H5) (a := r) (o := .tup [V.int ((i : Int) / (p2.2.1 : Int)), V.int ((i : Int) % (p2.2.1 : Int))]))
      exact this
    rw [range_all] at hw2
    have lws := paired_len hw2
    rw [List.length_range] at lws
    have e02 := e1.trans e2
    show tRet _ _ [some u, some v, some w, some (.ref t), none, none] H2
    have lst : ∀ (k : Nat) (H3 : Hp), k < 2 → Ex H2 H3 → EvL (tLc (iList K (tVar 3)) (gName 5) tYes (tOp (rIxT K) (tVar 5) (tC (.int (k : Int)))) [5]) [some u, some v, some w, some (.ref t), none, none] H3 (((List.range (p.2.1 * p2.2.1)).map fun i => g (dmod p2.2.1 i) k).map vi) := fun k H3 hk e3 H4 e4 Q4 q4 => by
      refine do_elp (elp_lcL (K := K) (ev_var rfl) (sq_of ((e3.trans e4) _ _ ht)) (by omega) (fun _ => true) (fun v i _ => v = vi (g (dmod p2.2.1 i) k)) (fun _ _ _ _ _ z => z) (fun _ => rfl) (fun i x H5 e5 hx => ⟨et_yes, fun _ => ?_⟩)) fun r us H5 nr e5 hr hus => ?_
      · obtain ⟨j, hj, xa, rfl, hxa⟩ := paired_at hw2 hx
        have ij : j = i := by
          have il : i < p.2.1 * p2.2.1 := by rw [← lws]; exact (List.getElem?_eq_some_iff.mp hx).1
          rw [List.getElem?_range il] at hj
          exact (Option.some.inj hj).symm
        subst ij
        exact ep_ev (ev_op (ev_var rfl) ev_c (rv_ixT (K := K) (ex_t (e3.trans (e4.trans e5)) hxa) (atI_vi (k := k) (v := vi (g (dmod p2.2.1 j) k)) (by rw [List.getElem?_map, g_eq (by show k < 2; exact hk)]; rfl)))) fun _ _ => rfl
      · rw [range_all, lws] at hus
        have := paired_eqs hus
        refine q4 r H5 nr e5 ?_
        rw [hr, this, List.map_map]
        rfl
    refine do_ret (do_tup (do_cons (do_evL (lst 0 H2 (by decide) (Ex.refl _)) fun l1 H3 nl1 e3 hl1 => do_cons (do_evL (lst 1 H3 (by decide) e3) fun l2 H4 nl2 e4 hl2 => do_nil ⟨by show 2 ≤ sizeLine; decide, fun r nr => ?_⟩))))
    have e5 : Ex H4 (upd H4 r (.tup [.ref l1, .ref l2])) := Ex.new nr
    refine q r l1 l2 _ (e02.trans (e3.trans (e4.trans e5))) (st_of upd_same) (fresh_back e02 nl1) (fresh_back (e02.trans e3) nl2) (fun zz => ?_) ((e4.trans e5) _ _ hl1) (e5 _ _ hl2)
    rw [← zz, hl1] at nl2
    cases nl2
end
end K73
end
section
namespace K73
open PySem PySem.Spec PyProof.Rows L2 Evl RZ Dw M20 M25 CL LD
section
variable {P : Program} {w : World} {K : PySem.W.Frag} {mg : Str → Option Value} {base : Heap}
end
/-! lists of lists and a purse that is drawn from -/
section
variable {H0 H H' : Hp} {a p c : Addr} {as : List Addr} {L : List (List Nat)} {t : Nat}
end
/-! the leads are those that the law finds -/
theorem fods_eq {p p2 : MArg} (ok : MOk p) (ok2 : MOk p2) (es : p2.1 = p.1) (F : List Nat) : allOk p2.2.1 (lcs p p2) F = (fod p p2 F).isNone := by
  rw [Bool.eq_iff_iff, Option.isNone_iff_eq_none]
  unfold fod allOk
  rw [List.find?_eq_none, List.all_eq_true]
  constructor
  · intro h c hc
    have mem := ordc_mem hc
    obtain ⟨i, d, hi, hcd, hr⟩ := sig_at ok mem
    obtain ⟨il, e1, tb⟩ := tbOf_sig ok ok rfl hi
    have p2' := ok.1.pl d (List.mem_iff_getElem?.mpr ⟨i, hi⟩)
    obtain ⟨j, hj⟩ := List.mem_iff_getElem?.mp hr
    obtain ⟨pe, jl⟩ := rows_plc' p2' ok.2.n1 hj
    have z := h (lcOf p p2 c) (List.mem_map.mpr ⟨(c.1, c.2, g p.2.2[i] j), cws_mem.mpr ⟨i, d, p.2.2[i], j, c.2, hi, List.getElem?_eq_getElem il, hj, g_eq (by rw [tb.len]; exact jl), hcd, rfl⟩, by
      unfold lcOf
      rw [hcd, e1, pe]⟩)
    rw [z]
    decide
  · intro h c hc
    obtain ⟨c0, hc0, rfl⟩ := List.mem_map.mp hc
    obtain ⟨i, d, t, j, r, h1, h2, h3, h4, h5, h6⟩ := cws_mem.mp hc0
    have p2' := ok.1.pl d (List.mem_iff_getElem?.mpr ⟨i, h1⟩)
    obtain ⟨pe, jl⟩ := rows_plc' p2' ok.2.n1 h3
    obtain ⟨il, e1, tb⟩ := tbOf_sig ok ok rfl h1
    have et : p.2.2[i] = t := Option.some.inj ((List.getElem?_eq_getElem il).symm.trans h2)
    have mem : (d.1, r) ∈ ordc p.2.1 p.1 := by
      unfold ordc
      have ma : (d.1, r) ∈ allc p.2.1 p.1 := by
        unfold allc
        exact List.mem_flatMap.mpr ⟨d, List.mem_iff_getElem?.mpr ⟨i, h1⟩, List.mem_map.mpr ⟨r, List.mem_iff_getElem?.mpr ⟨j, h3⟩, rfl⟩⟩
      have nl : need r ≤ p.2.1 := need_le (rows_of (List.mem_iff_getElem?.mpr ⟨j, h3⟩)).2
      exact List.mem_flatMap.mpr ⟨need r, List.mem_range.mpr (by omega), List.mem_filter.mpr ⟨ma, decide_eq_true rfl⟩⟩
    have z := h _ mem
    have e : lcOf p p2 (d.1, r) = (c0.2.1, c0.2.2, tbOf p.1 p2.2.2 c0.1) := by
      unfold lcOf
      rw [h5, h6, pe, e1, et]
      have : g t j = c0.2.2 := by
        show t.getD j 0 = c0.2.2
        rw [List.getD_eq_getElem?_getD, h4]
        rfl
      rw [this]
    rw [← e]
    simpa using z
theorem lvl_due {p p2 : MArg} (ok : MOk p) (ok2 : MOk p2) (es : p2.1 = p.1) : lvl p2.2.1 (lcs p p2) p.2.1 = (rows p2.2.1 p.2.1).filter fun F => (fod p p2 F).isNone := by
  rw [leads_eq (lcs_grt ok)]
  exact List.filter_congr fun F _ => fods_eq ok ok2 es F
end K73
end
section
namespace K73
open PySem PySem.Spec PyProof.Rows L2 Evl RZ Dw M20 M25 CL LD
theorem all_cong {α : Type} {f h : α → Bool} : ∀ {l : List α}, (∀ x ∈ l, f x = h x) → l.all f = l.all h
  | [], _ => rfl
  | x :: l, e => by
    rw [List.all_cons, List.all_cons, e x (List.mem_cons_self ..), all_cong fun y hy => e y (List.mem_cons_of_mem _ hy)]
theorem prd_tb {p p2 : MArg} (ok : MOk p) (ok2 : MOk p2) (es : p2.1 = p.1) {i : Nat} {d : Str × Nat} (hi : p.1[i]? = some d) {h1 : i < p.2.2.length} {h2 : i < p2.2.2.length} {h3 : i < (prd p p2).2.2.length} : (prd p p2).2.2[i] = prodT p.2.1 p2.2.1 d.2 p.2.2[i] p2.2.2[i] := by
  obtain ⟨il, ed⟩ := List.getElem?_eq_some_iff.mp hi
  have e0 : (prd p p2).2.2[i]? = some (pT p.2.1 p2.2.1 p.1 p.2.2 p2.2.2 i) := by
    show (pTs _ _ _ _ _)[i]? = _
    unfold pTs
    rw [List.getElem?_map, List.getElem?_range il]
    rfl
  have e1 := Option.some.inj ((List.getElem?_eq_getElem h3).symm.trans e0)
  rw [e1]
  unfold pT
  rw [getD_at _ il, getD_at _ h1, getD_at _ h2, ed]
/-- the leads into a product: both sides lead -/
theorem leads_prd {t p p2 : MArg} (okt : MOk t) (ok : MOk p) (ok2 : MOk p2) (es : p2.1 = p.1) (et : p.1 = t.1) (le : p.2.1 * p2.2.1 ≤ 6) {F : List Nat} (hF : F ∈ rows (p.2.1 * p2.2.1) t.2.1) :
    allOk (p.2.1 * p2.2.1) (lcs t (prd p p2)) F = (allOk p.2.1 (lcs t p) (dv p2.2.1 F) && allOk p2.2.1 (lcs t p2) (md p2.2.1 F)) := by
  obtain ⟨lF, lo⟩ := rows_of hF
  unfold allOk lcs
  rw [List.all_map, List.all_map, List.all_map, ← all_and]
  refine all_cong fun c hc => ?_
  obtain ⟨l2, ar, wr⟩ := okt.cells c hc
  obtain ⟨i, d, tt, j, r, h1, h2, h3, h4, h5, h6⟩ := cws_mem.mp hc
  have okp := prd_ok ok ok2 es le
  obtain ⟨il, e1, tb1⟩ := tbOf_sig okt ok et h1
  obtain ⟨il2, e2, tb2⟩ := tbOf_sig okt ok2 (es.trans et) h1
  obtain ⟨il3, e3, tb3⟩ := tbOf_sig okt okp (show (prd p p2).1 = t.1 from et) h1
  have hd : p.1[i]? = some d := by rw [et]; exact h1
  have p2' := okt.1.pl d (List.mem_iff_getElem?.mpr ⟨i, h1⟩)
  show okC (p.2.1 * p2.2.1) F (c.2.1, c.2.2, tbOf t.1 (prd p p2).2.2 c.1) = (okC p.2.1 (dv p2.2.1 F) (c.2.1, c.2.2, tbOf t.1 p.2.2 c.1) && okC p2.2.1 (md p2.2.1 F) (c.2.1, c.2.2, tbOf t.1 p2.2.2 c.1))
  rw [h5, e1, e2, e3, prd_tb ok ok2 es hd (h1 := il) (h2 := il2)]
  exact okC_prd (by rw [h6]; exact (rows_of (List.mem_iff_getElem?.mpr ⟨j, h3⟩)).1) p2' (Nat.mul_pos ok.2.n1 ok2.2.n1) ok2.2.n1 (fun x hx => by rw [lF]; exact ar x hx) (by rw [lF]; exact wr) lo tb1 tb2
theorem dv_g {m n k : Nat} (h : k < n) : g (dv m (List.range n)) k = k / m := by
  unfold dv
  rw [g_map (by rw [List.length_range]; exact h)]
  congr 1
  have e := g_eq (show k < (List.range n).length by rw [List.length_range]; exact h)
  rw [List.getElem?_range h] at e
  exact (Option.some.inj e).symm
theorem md_g {m n k : Nat} (h : k < n) : g (md m (List.range n)) k = k % m := by
  unfold md
  rw [g_map (by rw [List.length_range]; exact h)]
  congr 1
  have e := g_eq (show k < (List.range n).length by rw [List.length_range]; exact h)
  rw [List.getElem?_range h] at e
  exact (Option.some.inj e).symm
/-- each cell of the product, taken aside -/
theorem cell_prd {p p2 : MArg} (ok : MOk p) (ok2 : MOk p2) (es : p2.1 = p.1) (le : p.2.1 * p2.2.1 ≤ 6) {c : Str × List Nat × Nat} (hc : c ∈ cwm (prd p p2)) : ∃ (i : Nat) (d : Str × Nat) (h1 : i < p.2.2.length) (h2 : i < p2.2.2.length), p.1[i]? = some d ∧ c.1 = d.1 ∧ c.2.1 ∈ rows (p.2.1 * p2.2.1) d.2 ∧ d.2 ≤ 2 ∧ Tab p.2.1 d.2 p.2.2[i] ∧ Tab p2.2.1 d.2 p2.2.2[i] ∧ c.2.2 = g p.2.2[i] (plc p.2.1 (dv p2.2.1 c.2.1)) * p2.2.1 + g p2.2.2[i] (plc p2.2.1 (md p2.2.1 c.2.1)) := by
  obtain ⟨i, d, tt, j, r, h1, h2, h3, h4, h5, h6⟩ := cws_mem.mp hc
  have hd : p.1[i]? = some d := h1
  obtain ⟨il, e1, tb1⟩ := tbOf_sig ok ok rfl hd
  obtain ⟨il2, e2, tb2⟩ := tbOf_sig ok ok2 es hd
  have okp := prd_ok ok ok2 es le
  have p2' := ok.1.pl d (List.mem_iff_getElem?.mpr ⟨i, hd⟩)
  have mem : r ∈ rows (p.2.1 * p2.2.1) d.2 := List.mem_iff_getElem?.mpr ⟨j, h3⟩
  refine ⟨i, d, il, il2, hd, h5, by rw [h6]; exact mem, p2', tb1, tb2, ?_⟩
  have il3 : i < (prd p p2).2.2.length := (List.getElem?_eq_some_iff.mp h2).1
  have ett : tt = prodT p.2.1 p2.2.1 d.2 p.2.2[i] p2.2.2[i] := by
    rw [← prd_tb ok ok2 es hd (h3 := il3)]
    exact Option.some.inj (h2.symm.trans (List.getElem?_eq_getElem il3))
  rw [ett] at h4
  rw [prodT_at h3] at h4
  rw [h6]
  exact (Option.some.inj h4).symm
theorem side_one {p p2 : MArg} (ok : MOk p) (ok2 : MOk p2) (es : p2.1 = p.1) (le : p.2.1 * p2.2.1 ≤ 6) : allOk p.2.1 (lcs (prd p p2) p) (dv p2.2.1 (List.range (p.2.1 * p2.2.1))) = true := by
  unfold allOk lcs
  rw [List.all_map, List.all_eq_true]
  intro c hc
  obtain ⟨i, d, h1, h2, hd, e, mem, p2', tb1, tb2, ew⟩ := cell_prd ok ok2 es le hc
  obtain ⟨lr, lo⟩ := rows_of mem
  have okp := prd_ok ok ok2 es le
  have wr : c.2.2 < p.2.1 * p2.2.1 := (okp.cells c hc).2.2
  obtain ⟨il, e1, _⟩ := tbOf_sig okp ok (rfl : p.1 = (prd p p2).1) hd
  have b := plc_low (md_low (r := c.2.1) ok2.2.n1) (by unfold md; rw [List.length_map, lr]; exact p2')
  rw [show (md p2.2.1 c.2.1).length = d.2 by unfold md; rw [List.length_map, lr]] at b
  have dm := both_dm (a := g p.2.2[i] (plc p.2.1 (dv p2.2.1 c.2.1))) (tb2.low _ b)
  show okC p.2.1 _ (c.2.1, c.2.2, tbOf (prd p p2).1 p.2.2 c.1) = true
  unfold okC
  refine decide_eq_true ?_
  show g (dv p2.2.1 _) c.2.2 = g (tbOf (prd p p2).1 p.2.2 c.1) (plc p.2.1 (c.2.1.map (g (dv p2.2.1 _))))
  have em : c.2.1.map (g (dv p2.2.1 (List.range (p.2.1 * p2.2.1)))) = dv p2.2.1 c.2.1 := List.map_congr_left fun x hx => dv_g (lo x hx)
  rw [em, dv_g wr, e, e1, ew]
  exact dm.1
theorem side_two {p p2 : MArg} (ok : MOk p) (ok2 : MOk p2) (es : p2.1 = p.1) (le : p.2.1 * p2.2.1 ≤ 6) : allOk p2.2.1 (lcs (prd p p2) p2) (md p2.2.1 (List.range (p.2.1 * p2.2.1))) = true := by
  unfold allOk lcs
  rw [List.all_map, List.all_eq_true]
  intro c hc
  obtain ⟨i, d, h1, h2, hd, e, mem, p2', tb1, tb2, ew⟩ := cell_prd ok ok2 es le hc
  obtain ⟨lr, lo⟩ := rows_of mem
  have okp := prd_ok ok ok2 es le
  have wr : c.2.2 < p.2.1 * p2.2.1 := (okp.cells c hc).2.2
  obtain ⟨il, e1, _⟩ := tbOf_sig okp ok2 (es : p2.1 = (prd p p2).1) hd
  have b := plc_low (md_low (r := c.2.1) ok2.2.n1) (by unfold md; rw [List.length_map, lr]; exact p2')
  rw [show (md p2.2.1 c.2.1).length = d.2 by unfold md; rw [List.length_map, lr]] at b
  have dm := both_dm (a := g p.2.2[i] (plc p.2.1 (dv p2.2.1 c.2.1))) (tb2.low _ b)
  show okC p2.2.1 _ (c.2.1, c.2.2, tbOf (prd p p2).1 p2.2.2 c.1) = true
  unfold okC
  refine decide_eq_true ?_
  show g (md p2.2.1 _) c.2.2 = g (tbOf (prd p p2).1 p2.2.2 c.1) (plc p2.2.1 (c.2.1.map (g (md p2.2.1 _))))
  have em : c.2.1.map (g (md p2.2.1 (List.range (p.2.1 * p2.2.1)))) = md p2.2.1 c.2.1 := List.map_congr_left fun x hx => md_g (lo x hx)
  rw [em, md_g wr, e, e1, ew]
  exact dm.2
end K73
end
section
namespace K73
open PySem PySem.Spec PyProof.Rows L2 Evl RZ Dw M20 M25 CL LD
section
variable {P : Program} {w : World} {K : PySem.W.Frag} {mg : Str → Option Value} {base : Heap} {σ : L2.St} {H : Hp} {C G : Addr}
/-- a row, each number of it changed -/
theorem el_row {te : TE} {xa : Addr} {row : List Nat} {i j : Nat} {u : Nat → Nat} (hi : σ[i]? = some (some (.ref xa))) (hx : SqT K H xa (row.map vi)) (l : row.length ≤ 40000) (hwp : ∀ x, wipe ((wipe σ [j]).set j (some x)) [j] = wipe σ [j])
    (hu : ∀ k H1, Ex H H1 → Ev te ((wipe σ [j]).set j (some (vi k))) H1 (vi (u k))) : EvL (tLc (iTup K (tVar i)) (gName j) tYes te [j]) σ H ((row.map u).map vi) := by
  have z := el_lcT (K := K) (tl := tVar i) (te := te) (σ := σ) (j := j) (vs := [j]) (ev_var hi) hx (fun i => vi (u (row.getD i 0))) (by rw [List.length_map]; exact l) hwp (fun i x H5 e5 hx => by
    rw [List.getElem?_map] at hx
    cases hk : row[i]? with
    | none => rw [hk] at hx; cases hx
    | some k =>
      rw [hk] at hx
      cases Option.some.inj hx
      have : row.getD i 0 = k := by rw [List.getD_eq_getElem?_getD, hk]; rfl
      rw [this]
      exact hu k H5 e5)
  have e : (List.range (row.map vi).length).map (fun i => vi (u (row.getD i 0))) = (row.map u).map vi := by
    rw [List.length_map]
    have h1 : (List.range row.length).map (fun i => vi (u (row.getD i 0))) = (((List.range row.length).map fun i => row.getD i 0).map u).map vi := by
      rw [List.map_map, List.map_map]
      rfl
    rw [h1, Dw.range_getD]
  rw [e] at z
  exact z
theorem ev_did {p : MArg} {u v : V} {d : Str × Nat} {i im : Nat} {r : List Nat} {te : TE} (h0 : σ[0]? = some (some u)) (h1 : σ[im]? = some (some v)) (h5 : σ[5]? = some (some (.str d.1))) (hm : MA K H u v p) (ok : MOk p) (hi : p.1[i]? = some d) (hl : ∀ H1, Ex H H1 → EvL te σ H1 (r.map vi)) (lr : r.length = d.2) (low : ∀ k ∈ r, k < p.2.1) :
    Ev (tCall (sp_did K) [] E0 (tCons (tVar 0) (tCons (tVar im) (tCons (tVar 5) (tCons (tCB (rTupOf K) (tCons te tNil)) tNil))))) σ H (vi (g (p.2.2.getD i []) (plc p.2.1 r))) := fun H1 e1 Q q =>
  do_cons (do_ev (ev_var h0) fun H2 e2 => do_cons (do_ev (ev_var h1) fun H3 e3 => do_cons (do_ev (ev_var h5) fun H4 e4 => do_cons (eu_tupN (K := K) (hl H4 (e1.trans (e2.trans (e3.trans e4)))) H4 (Ex.refl _) _ fun r' H5 nr e5 hr => do_nil ⟨(p, d, i, r), ⟨⟨u, v, .ref r', rfl, hm.ex (e1.trans (e2.trans (e3.trans (e4.trans e5)))), ⟨r', rfl, st_of hr⟩⟩, ok, hi, lr, low⟩, fun v' H6 e6 hv => by rw [hv]; exact q H6 (e2.trans (e3.trans (e4.trans (e5.trans e6))))⟩))))
theorem c_both (T : Txt mg) (D : Df K mg "_law_both" s_both ["_law_signature_here", "_law_one", "_law_other"]) (c_ways : Cl P w K mg base 1 "_law_ways" (sp_ways K)) (c_did : Cl P w K mg base 1 "_law_did" (sp_did K)) : Cl P w K mg base 2 "_law_both" (sp_product K) := by
  refine cl_of (k := 1) D sc_both (fun vs H Q E h => ?_) (fun f cdv A outer s H vs Q E hr h => ?_)
  · obtain ⟨p, ⟨⟨⟨u, v, w, rfl, _⟩, _⟩, _⟩, _⟩ := h
    rfl
  · obtain ⟨⟨p, p2⟩, hpr, q⟩ := h
    obtain ⟨⟨⟨u, v, w, rfl, hm, hw⟩, ok, ok2, es⟩, le⟩ := id hpr
    refine ⟨_, (pss_cons (ps_set (i := 3) sc_both.nd rfl (.inr rfl) (pe_ix ix_tup (pv 2) pe_int (fun _ _ => rfl)))
      (pss_cons (ps_set (i := 4) sc_both.nd rfl (.inl rfl) (pe_lst pa_nil))
      (pss_cons (ps_for PassesOwn.never (by rfl) (pi_tup (pv 0)) (pg_tup (by rfl) (pgs_cons (pg_name (i := 5) sc_both.nd rfl (.inl rfl)) (pgs_cons (pg_name (i := 6) sc_both.nd rfl (.inl rfl)) pgs_nil)))
        (pss_cons (ps_set (i := 7) sc_both.nd rfl (.inl rfl) (pe_lst pa_nil))
        (pss_cons (ps_for PassesOwn.never (by rfl) (pi_list (pe_cl c_ways hr (by first | decide | omega) (by rfl) (pa_cons (pv 6) (pa_cons (pe_op op_mul (pe_ix ix_tup (pv 1) pe_int (fun _ _ => rfl)) (pv 3)) pa_nil)))) (pg_name (i := 8) sc_both.nd rfl (.inl rfl))
          (pss_cons (ps_set (i := 9) sc_both.nd rfl (.inl rfl) (pe_cl c_did hr (by first | decide | omega) (by rfl) (pa_cons (pv 0) (pa_cons (pv 1) (pa_cons (pv 5) (pa_cons (pe_callTy call_tuple_of (by rfl) T.z_tuple (by decide +kernel) (pa_cons (pe_lc (own := [("_law_arg", 10)]) (g := (gName 10)) (by rfl) sc_both.nd (pi_tup (pv 8)) (blkOk_by (own := [("_law_arg", 10)]) (N := ["_law_signature_here", "_law_one", "_law_other", "_law_wide", "_law_tables_here", "_law_name", "_law_many", "_law_table_here", "_law_args", "_law_first", "_law_arg"]) (sc := (defScope s_both)) (by decide +kernel)) (fun _ _ _ _ _ => (pg_name (i := 10) sc_both.nd rfl (.inl rfl))) (fun _ _ _ _ _ => pts_nil) (fun _ _ _ _ _ => (pe_op op_fdiv (pv 10) (pv 3)))) pa_nil)) pa_nil))))))
          (pss_one (ps_expr (pe_bm PySem.F.plainAttrs_list PySem.F.slot_list_append PySem.F.type_list_append mt_append (pv 7) (pa_cons (pe_op op_add (pe_op op_mul (pv 9) (pv 3)) (pe_cl c_did hr (by first | decide | omega) (by rfl) (pa_cons (pv 0) (pa_cons (pv 2) (pa_cons (pv 5) (pa_cons (pe_callTy call_tuple_of (by rfl) T.z_tuple (by decide +kernel) (pa_cons (pe_lc (own := [("_law_arg", 10)]) (g := (gName 10)) (by rfl) sc_both.nd (pi_tup (pv 8)) (blkOk_by (own := [("_law_arg", 10)]) (N := ["_law_signature_here", "_law_one", "_law_other", "_law_wide", "_law_tables_here", "_law_name", "_law_many", "_law_table_here", "_law_args", "_law_first", "_law_arg"]) (sc := (defScope s_both)) (by decide +kernel)) (fun _ _ _ _ _ => (pg_name (i := 10) sc_both.nd rfl (.inl rfl))) (fun _ _ _ _ _ => pts_nil) (fun _ _ _ _ _ => (pe_op op_mod (pv 10) (pv 3)))) pa_nil)) pa_nil)))))) pa_nil))))))
        (pss_one (ps_expr (pe_bm PySem.F.plainAttrs_list PySem.F.slot_list_append PySem.F.type_list_append mt_append (pv 4) (pa_cons (pe_callTy call_tuple_of (by rfl) T.z_tuple (by decide +kernel) (pa_cons (pv 7) pa_nil)) pa_nil)))))))
      (pss_one (ps_ret (pe_tup (pa_cons (pe_op op_mul (pe_ix ix_tup (pv 1) pe_int (fun _ _ => rfl)) (pv 3)) (pa_cons (pe_callTy call_tuple_of (by rfl) T.z_tuple (by decide +kernel) (pa_cons (pv 4) pa_nil)) pa_nil)))))))), ?_⟩
    replace hm : MA K H u v p := hm
    replace hw : Mdl K H w p2.2.1 p2.2.2 := hw
    replace le : p.2.1 * p2.2.1 ≤ 6 := le
    replace es : p2.1 = p.1 := es
    have n6 : p.2.1 ≤ 6 := ok.2.n6
    have m6 : p2.2.1 ≤ 6 := ok2.2.n6
    have m1 : 1 ≤ p2.2.1 := ok2.2.n1
    have n1 : 1 ≤ p.2.1 := ok.2.n1
    obtain ⟨a, us, rfl, hS, hP⟩ := id hm.1
    obtain ⟨z, tv, rfl, hZ, hT⟩ := id hm.2
    obtain ⟨z2, tv2, rfl, hZ2, hT2⟩ := id hw
    replace hP : Paired (Deed K H) us p.1 := hP
    have lS : us.length = p.1.length := paired_len hP
    have lo : p.2.2.length = p.1.length := ok.2.len
    have lo2 : p2.2.2.length = p.1.length := by rw [← es]; exact ok2.2.len
    have l4 : p.1.length ≤ 4 := ok.1.l4
    have hw2 : MA K H (.ref a) (.ref z2) p2 := ⟨by rw [es]; exact hm.1, hw⟩
    refine q_asg (v := vi p2.2.1) (ev_size rfl hw) fun H1 e1 => ?_
    refine q_asgL (el_lst ea_nil (Nat.zero_le _)) fun D0 H2 nD e2 hD => ?_
    have e02 := e1.trans e2
    show tSeq _ _ _ [some (.ref a), some (.ref z), some (.ref z2), some (vi p2.2.1), some (.ref D0), none, none, none, none, none, none] H2
    refine q_forT (K := K) (ev_var rfl) (ex_t e02 hS) (fun i σ H' => Ex H H' ∧ (∃ ws, H' D0 = some (.lst ws) ∧ ws.length = i ∧ Paired (Nats K H') ws ((pTs p.2.1 p2.2.1 p.1 p.2.2 p2.2.2).take i)) ∧ ∃ y5 y6 y7 y8 y9, σ = [some (.ref a), some (.ref z), some (.ref z2), some (vi p2.2.1), some (.ref D0), y5, y6, y7, y8, y9, none])
      (fun H3 e3 => ⟨e02.trans e3, ⟨[], e3 _ _ hD, rfl, .nil⟩, none, none, none, none, none, rfl⟩) (fun i σ' H' _ ⟨e, _⟩ => ex_t e hS) (fun i x σ' H4 hx ⟨e4, ⟨ws, hws, lw, pw⟩, y5, y6, y7, y8, y9, hσ⟩ => ?_) (fun σ' H4 ⟨e4, ⟨ws, hws, lw, pw⟩, y5, y6, y7, y8, y9, hσ⟩ => ?_)
    · subst hσ
      obtain ⟨d, hd, c, rfl, hc⟩ := paired_at hP hx
      have il : i < p.1.length := (List.getElem?_eq_some_iff.mp hd).1
      have i1 : i < p.2.2.length := by omega
      have i2 : i < p2.2.2.length := by omega
      have i3 : i < p2.1.length := by rw [es]; exact il
      have hd2 : p2.1[i]? = some d := by rw [es]; exact hd
      have ed : p.1[i] = d := Option.some.inj ((List.getElem?_eq_getElem il).symm.trans hd)
      have ed2 : p2.1[i] = d := Option.some.inj ((List.getElem?_eq_getElem i3).symm.trans hd2)
      have tb1 := ok.2.tab i il i1
      have tb2 := ok2.2.tab i i3 i2
      rw [ed] at tb1
      rw [ed2] at tb2
      have p2' : d.2 ≤ 2 := ok.1.pl d (List.mem_iff_getElem?.mpr ⟨i, hd⟩)
      refine ⟨c, _, rfl, ex_t e4 hc, rfl, _, _, rfl, _, _, rfl, rfl, ?_⟩
      show tSeq _ _ _ [some (.ref a), some (.ref z), some (.ref z2), some (vi p2.2.1), some (.ref D0), some (.str d.1), some (vi d.2), y7, y8, y9, none] H4
      refine q_asgL (el_lst ea_nil (Nat.zero_le _)) fun D1 H5 nD1 e5 hD1 => ?_
      have e05 := e4.trans e5
      refine q_forLs (do_evP (ep_callF (p.2.1 * p2.2.1, d.2) (ea_cons (ev_var rfl) (ea_cons (ev_mulM (a := p.2.1) (b := p2.2.1) (ev_size (n := p.2.1) rfl (hm.2.ex e05)) (ev_var rfl) (by omega)) ea_nil)) (fun _ _ => ⟨rfl, le, by show d.2 ≤ 4; omega⟩)) fun rv H6 e6 ⟨⟨ra, rvs, hra, hrl, prs⟩, nra⟩ => ⟨ra, hra, ⟨rvs, sq_of hrl⟩, ?_⟩)
      subst hra
      replace prs : Paired (Nats K H6) rvs (rows (p.2.1 * p2.2.1) d.2) := prs
      have lrv := paired_len prs
      rw [rows_len'] at lrv
      have b36 := pow_36 le p2'
      have e46 := e5.trans e6
      have raD : ra ≠ D1 := fun z => by have := nra _ rfl; rw [z, hD1] at this; cases this
      refine qloops_list (K := K) (xs := rvs) (fun j σ H' => Ex H4 H' ∧ H' ra = some (.lst rvs) ∧ Paired (Nats K H') rvs (rows (p.2.1 * p2.2.1) d.2) ∧ H' D1 = some (.lst (((prodT p.2.1 p2.2.1 d.2 p.2.2[i] p2.2.2[i]).take j).map vi)) ∧ ∃ y8 y9, σ = [some (.ref a), some (.ref z), some (.ref z2), some (vi p2.2.1), some (.ref D0), some (.str d.1), some (vi d.2), some (.ref D1), y8, y9, none]) ⟨e46, hrl, prs, e6 _ _ hD1, y8, y9, rfl⟩ (fun i σ' H' _ ⟨_, hr, _⟩ => sq_of hr) (fun j x σ' H7 hx ⟨e7, hr7, pr7, hD7, y8, y9, hσ⟩ => ?_) (fun σ' H7 ⟨e7, hr7, pr7, hD7, y8, y9, hσ⟩ => ?_)
      · subst hσ
        obtain ⟨row, hrow, xa, rfl, hxa⟩ := paired_at pr7 hx
        have hi := (List.getElem?_eq_some_iff.mp hx).1
        obtain ⟨lr, rl⟩ := rows_of (List.mem_iff_getElem?.mpr ⟨j, hrow⟩)
        have ld : (dv p2.2.1 row).length = d.2 := by unfold dv; rw [List.length_map, lr]
        have lm : (md p2.2.1 row).length = d.2 := by unfold md; rw [List.length_map, lr]
        have pd := plc_low (dv_low m1 rl) (by rw [ld]; exact p2')
        have pm := plc_low (md_low (r := row) m1) (by rw [lm]; exact p2')
        rw [ld] at pd
        rw [lm] at pm
        have g1 := tb1.low _ pd
        have g2 := tb2.low _ pm
        have s1 : g p.2.2[i] (plc p.2.1 (dv p2.2.1 row)) ≤ 100000 := Nat.le_trans (Nat.le_of_lt g1) (Nat.le_trans n6 (by decide))
        have eg1 : p.2.2.getD i [] = p.2.2[i] := getD_at _ i1
        have eg2 : p2.2.2.getD i [] = p2.2.2[i] := getD_at _ i2
        have e07 := e4.trans e7
        show tSeq _ _ _ [some (.ref a), some (.ref z), some (.ref z2), some (vi p2.2.1), some (.ref D0), some (.str d.1), some (vi d.2), some (.ref D1), some (.ref xa), y9, none] H7
        refine q_asg (v := vi (g p.2.2[i] (plc p.2.1 (dv p2.2.1 row)))) (ev_is (ev_did (p := p) (i := i) (r := dv p2.2.1 row) rfl rfl rfl (hm.ex e07) ok hd (fun H1 e1 => el_row (u := fun k => k / p2.2.1) rfl (ex_t e1 hxa) (by omega) (fun _ => rfl) (fun k H2 e2 => ev_divM (ev_var rfl) (ev_var rfl) (by omega) (by omega))) ld (dv_low m1 rl)) (by rw [eg1])) fun H8 e8 => ?_
        refine s_appP (e8 _ _ hD7) (ev_var rfl) (ep_ev (P := fun v _ => v = vi (g p.2.2[i] (plc p.2.1 (dv p2.2.1 row)) * p2.2.1 + g p2.2.2[i] (plc p2.2.1 (md p2.2.1 row)))) (ev_addM (ev_mulM (a := g p.2.2[i] (plc p.2.1 (dv p2.2.1 row))) (b := p2.2.1) (ev_var rfl) (ev_var rfl) s1) (ev_is (ev_did (p := p2) (i := i) (r := md p2.2.1 row) rfl rfl rfl (hw2.ex (e07.trans e8)) ok2 hd2 (fun H1 e1 => el_row (u := fun k => k % p2.2.1) rfl (ex_t (e8.trans e1) hxa) (by omega) (fun _ => rfl) (fun k H2 e2 => ev_modM (ev_var rfl) (ev_var rfl) (by omega))) lm (md_low m1)) (by rw [eg2]))) fun _ _ => rfl) (by rw [List.length_map, List.length_take, prodT_len]; omega) fun v H9 e9 hv => ?_
        subst hv
        have e79 := e8.trans e9
        have hD9 := e79 _ _ hD7
        refine ⟨(e7.trans e79).mut nD1, by rw [upd_ne raD]; exact e79 _ _ hr7, paired_imp (fun _ _ zz => Nats.et (ET.trans (Dw.Ex.et e79) (ET.refl.upd hD9)) zz) pr7, ?_, _, _, rfl⟩
        rw [upd_same, List.take_add_one, prodT_at hrow, List.map_append]
        rfl
      · subst hσ
        rw [lrv, List.take_of_length_le (by rw [prodT_len]; exact Nat.le_refl _)] at hD7
        have hws7 := e7 _ _ hws
        refine s_appP hws7 (ev_var rfl) (P := fun v H' => Nats K H' v (prodT p.2.1 p2.2.1 d.2 p.2.2[i] p2.2.2[i])) (fun H8 e8 Q' q' => eu_tupL (K := K) (ev_var rfl) (sq_of (e8 _ _ hD7)) H8 (Ex.refl _) _ fun r H9 nr e9 hr => q' (.ref r) H9 e9 ⟨r, rfl, st_of hr⟩) (by omega) fun v H9 e9 hv => ?_
        have e49 := e7.trans e9
        have hws9 := e49 _ _ hws
        refine ⟨(e4.trans e49).mut (fresh_back e1 nD), ⟨ws ++ [v], upd_same, by rw [List.length_append, lw]; rfl, ?_⟩, _, _, _, _, _, rfl⟩
        have e0 : (pTs p.2.1 p2.2.1 p.1 p.2.2 p2.2.2)[i]? = some (prodT p.2.1 p2.2.1 d.2 p.2.2[i] p2.2.2[i]) := by
          unfold pTs
          rw [List.getElem?_map, List.getElem?_range il]
          show some (pT _ _ _ _ _ i) = _
          unfold pT
          rw [getD_at _ il, getD_at _ i1, getD_at _ i2, ed]
        rw [List.take_add_one, e0]
        have et : ET K H4 (upd H9 D0 (.lst (ws ++ [v]))) := ET.trans (Dw.Ex.et e49) (ET.refl.upd hws9)
        exact paired_snoc' (R := Nats K (upd H9 D0 (.lst (ws ++ [v])))) (x := v) (y := prodT p.2.1 p2.2.1 d.2 p.2.2[i] p2.2.2[i]) (hv.et (ET.refl.upd hws9)) (paired_imp (fun _ _ zz => Nats.et et zz) pw)
    · subst hσ
      rw [lS, List.take_of_length_le (by unfold pTs; rw [List.length_map, List.length_range]; exact Nat.le_refl _)] at pw
      refine do_ret (do_tup (do_cons (do_ev (v := vi (p.2.1 * p2.2.1)) (ev_mulM (ev_size (n := p.2.1) rfl (hm.2.ex e4)) (ev_var rfl) (by omega)) fun H5 e5 => do_cons (eu_tupL (K := K) (ev_var rfl) (sq_of (e5 _ _ hws)) H5 (Ex.refl _) _ fun r H6 nr e6 hr6 => do_nil ⟨by show 2 ≤ sizeLine; decide, fun r2 nr2 => ?_⟩))))
      have e7 : Ex H6 (upd H6 r2 (.tup [vi (p.2.1 * p2.2.1), .ref r])) := Ex.new nr2
      exact q _ _ (e4.trans (e5.trans (e6.trans e7))) ⟨r2, .ref r, rfl, st_of upd_same, r, ws, rfl, st_of (e7 _ _ hr6), paired_imp (fun _ _ zz => zz.ex (e5.trans (e6.trans e7))) pw⟩
end
end K73
end
section
namespace K73
open PySem PySem.Spec PyProof.Rows L2 Evl RZ Dw M20 M25 CL LD
section
variable {P : Program} {w : World} {K : PySem.W.Frag} {mg : Str → Option Value} {base : Heap} {C G : Addr}
theorem c_signature (T : Txt mg) (D : Df K mg "_law_signature" s_signature ["_law_purse_here"]) (c_pick : Cl P w K mg base 2 "_law_pick" (sp_pick K)) : Cl P w K mg base 3 "_law_signature" (sp_signature K) := by
  refine cl_of (k := 2) D sc_signature (fun vs H Q E h => ?_) (fun f cdv A outer s H vs Q E hr h => ?_)
  · obtain ⟨p, c, t, rfl, _⟩ := h
    rfl
  · obtain ⟨p, c, t, rfl, pu, t1, q⟩ := h
    refine ⟨_, (pss_cons (ps_set (i := 1) sc_signature.nd rfl (.inl rfl) (pe_lst (pa_cons (pe_tup (pa_cons (pe_tup (pa_cons pe_str (pa_cons pe_int pa_nil))) pa_nil)) (pa_cons (pe_tup (pa_cons (pe_tup (pa_cons pe_str (pa_cons pe_int pa_nil))) pa_nil)) (pa_cons (pe_tup (pa_cons (pe_tup (pa_cons pe_str (pa_cons pe_int pa_nil))) (pa_cons (pe_tup (pa_cons pe_str (pa_cons pe_int pa_nil))) pa_nil))) (pa_cons (pe_tup (pa_cons (pe_tup (pa_cons pe_str (pa_cons pe_int pa_nil))) (pa_cons (pe_tup (pa_cons pe_str (pa_cons pe_int pa_nil))) pa_nil))) (pa_cons (pe_tup (pa_cons (pe_tup (pa_cons pe_str (pa_cons pe_int pa_nil))) (pa_cons (pe_tup (pa_cons pe_str (pa_cons pe_int pa_nil))) (pa_cons (pe_tup (pa_cons pe_str (pa_cons pe_int pa_nil))) pa_nil)))) pa_nil)))))))
      (pss_one (ps_ret (pe_cl c_pick hr (by first | decide | omega) (by rfl) (pa_cons (pv 0) (pa_cons (pe_op op_cat (pv 1) (pe_lst (pa_cons (pe_tup (pa_cons (pe_tup (pa_cons pe_str (pa_cons pe_int pa_nil))) (pa_cons (pe_tup (pa_cons pe_str (pa_cons pe_int pa_nil))) pa_nil))) (pa_cons (pe_tup (pa_cons (pe_tup (pa_cons pe_str (pa_cons pe_int pa_nil))) (pa_cons (pe_tup (pa_cons pe_str (pa_cons pe_int pa_nil))) pa_nil))) (pa_cons (pe_tup (pa_cons (pe_tup (pa_cons pe_str (pa_cons pe_int pa_nil))) (pa_cons (pe_tup (pa_cons pe_str (pa_cons pe_int pa_nil))) (pa_cons (pe_tup (pa_cons pe_str (pa_cons pe_int pa_nil))) pa_nil)))) pa_nil))))) pa_nil)))))), ?_⟩
    refine q_asgP (ep_lstR (st_sg (K := K)) (eas_cons (st_sg (K := K)) (ep_sgT (K := K) (sg := [("f", 2)]) (eds_cons eds_nil) (by decide) (by decide +kernel)) (eas_cons (st_sg (K := K)) (ep_sgT (K := K) (sg := [("g", 1)]) (eds_cons eds_nil) (by decide) (by decide +kernel)) (eas_cons (st_sg (K := K)) (ep_sgT (K := K) (sg := [("g", 1), ("h", 1)]) (eds_cons (eds_cons eds_nil)) (by decide) (by decide +kernel)) (eas_cons (st_sg (K := K)) (ep_sgT (K := K) (sg := [("c", 0), ("f", 2)]) (eds_cons (eds_cons eds_nil)) (by decide) (by decide +kernel)) (eas_cons (st_sg (K := K)) (ep_sgT (K := K) (sg := [("g", 1), ("c", 0), ("d", 0)]) (eds_cons (eds_cons (eds_cons eds_nil))) (by decide) (by decide +kernel)) eas_nil))))) (by decide) pu) fun v1 H1 e1 hv1 => ?_
    have pu1 := pu.ex e1
    have e01 := e1
    refine do_ret (do_pickR (K := K) (R := SgV K) (n := 8) (ev_var rfl) pu1 (by omega) (ep_catR (n1 := 5) (n2 := 3) (st_sg (K := K)) (ep_ev (ev_var rfl) fun _ e => LsR.ex (st_sg (K := K)) e hv1) (ep_lstR (st_sg (K := K)) (eas_cons (st_sg (K := K)) (ep_sgT (K := K) (sg := [("f", 2), ("g", 1)]) (eds_cons (eds_cons eds_nil)) (by decide) (by decide +kernel)) (eas_cons (st_sg (K := K)) (ep_sgT (K := K) (sg := [("c", 0), ("d", 0)]) (eds_cons (eds_cons eds_nil)) (by decide) (by decide +kernel)) (eas_cons (st_sg (K := K)) (ep_sgT (K := K) (sg := [("f", 2), ("c", 0), ("g", 1)]) (eds_cons (eds_cons (eds_cons eds_nil))) (by decide) (by decide +kernel)) eas_nil))) (by decide) pu1) (by decide) pu1) (by decide) (by decide) (fun v H2 H' pu2 o2 h => h.et (o2.et pu2)) fun v H' o pu' ⟨sg, hs, so⟩ => q v sg H' ((Off.of_ex e01).trans o) pu' hs so)
theorem pe_gv {X : Cx} {x : Str} {pos : Pos} {a : Addr} (hg : Gl X x) (h : X.mg x = some (.ref a)) (hn : x ≠ "__name__" := by decide) (hd : (x == ("__debug__" : Str)) = false := by decide) : PE X (.Name x pos) (tC (.ref a)) := pe_glob hg h rfl (hd := hd)
def sp_refused (K : PySem.W.Frag) : Sp := spX (fun (z : Nat × (MArg × MArg)) vs H => (∃ us, vs = vi z.1 :: us ∧ PrBig K z.2 us H)) (fun _ v _ => v = .bl true)
theorem c_refused (T : Txt mg) (D : Df K mg "_law_refused" s_refused ["_law_way_here", "_law_signature_here", "_law_one", "_law_other"]) (er : ErT K mg C G) (c_productX : ClX P w K mg base 10 "product" (spE C (PrBig K))) (c_sidesX : ClX P w K mg base 10 "sides" (spE C (PrBig K))) : Cl P w K mg base 11 "_law_refused" (sp_refused K) := by
  refine cl_of (k := 10) D sc_refused (fun vs H Q E h => ?_) (fun f cdv A outer s H vs Q E hr h => ?_)
  · obtain ⟨z, ⟨us, rfl, ⟨⟨⟨u, v, w, rfl, _⟩, _⟩, _⟩⟩, _⟩ := h
    rfl
  · obtain ⟨⟨way, p⟩, ⟨us, rfl, hb⟩, q⟩ := h
    obtain ⟨hp, le⟩ := id hb
    obtain ⟨u, v, w, hvs, _⟩ := id hp.1
    replace hvs : us = [u, v, w] := hvs
    subst hvs
    refine ⟨_, (pss_cons (ps_set (i := 4) sc_refused.nd rfl (.inl rfl) pe_non)
      (pss_cut (ps_try_trk (i := 5) rfl rfl rfl sc_refused.nd rfl rfl ⟨rfl, by decide, .inl er.g⟩ (fun W pn xe tk _ => pss_one (ps_if (pt_cmpR op_eq (pv 0) pe_int (nomark _)) (pss_one (ps_expr (pe_clX c_productX tk hr (by first | decide | omega) (by rfl) (pa_cons (pv 1) (pa_cons (pv 2) (pa_cons (pv 3) pa_nil)))))) (pss_one (ps_expr (pe_clX c_sidesX tk hr (by first | decide | omega) (by rfl) (pa_cons (pv 1) (pa_cons (pv 2) (pa_cons (pv 3) pa_nil)))))))) (fun a pn => pss_one (ps_set (i := 4) sc_refused.nd rfl (.inl rfl) (pv 5))))
      (pss_one (ps_ret (pe_and (pe_callB call_isC (by rfl) T.z_isinstance (by decide +kernel) (pa_cons (pv 4) (pa_cons (pe_gv (by rfl) er.c.g) pa_nil))) (pe_one (pe_callB call_isC (by rfl) T.z_isinstance (by decide +kernel) (pa_cons (pv 4) (pa_cons (pe_ty "ValueError" (by rfl) T.z_ValueError (by decide +kernel)) pa_nil))))))))), ?_⟩
    replace q : ∀ r H', Ex H H' → r = .bl true → Q r H' := q
    refine q_asg ev_c fun H1 e1 => ?_
    refine q_cut (M := fun σ' H' => Ex H H' ∧ ∃ (x : Addr), TyC K H' (.ref x) (.ref C) ∧ σ' = [some (vi way), some u, some v, some w, some (.ref x), none]) ?_ (fun σ' H' hM => ?_)
    · show tIfS _ _ _ _ [some (vi way), some u, some v, some w, some .non, none] H1
      have eq0 : ∀ {H2 : Hp}, EvT (tTest (tOp rEq (tVar 0) (tC (.int 0)))) [some (vi way), some u, some v, some w, some .non, none] H2 (decide (way = 0)) := fun {H2} => et_is (et_test (ev_op (ev_var rfl) ev_c (rv_eq rfl))) (by
        show decide (V.int (way : Int) = V.int 0) = decide (way = 0)
        by_cases e : way = 0
        · rw [decide_eq_true e, decide_eq_true (by rw [e]; rfl)]
        · rw [decide_eq_false e, decide_eq_false (fun z => e (by
            injection z with z
            omega))])
      have kept : ∀ {H4 : Hp}, Ex H H4 → ∀ a, H4 a = none → ∀ H5, Ex (upd H4 a (ExcAt a (.ref C) none)) H5 → (Ex H H5 ∧ ∃ (x : Addr), TyC K H5 (.ref x) (.ref C) ∧ [some (vi way), some u, some v, some w, some (.ref a), none] = [some (vi way), some u, some v, some w, some (.ref x), none]) := fun {H4} e4 a na H5 e5 => ⟨(e4.trans (Ex.new na)).trans e5, a, .inr ⟨a, C, rfl, e5 _ _ upd_same, er.c.c, rfl⟩, rfl⟩
      have one : ∀ {H2 : Hp}, Ex H H2 → ∀ {I1 : Hp}, Ex H2 I1 → PrBig K p [u, v, w] I1 := fun {H2} e2 {I1} f1 => ⟨hp.ex (e2.trans f1), le⟩
      refine s_if (b := decide (way = 0)) eq0 (fun _ H2 e2 => ?_) (fun _ H2 e2 => ?_)
      · exact do_callS (ea_cons (ev_var rfl) (ea_cons (ev_var rfl) (ea_cons (ev_var rfl) ea_nil)) H2 (Ex.refl _) _ fun I1 f1 => ⟨p, one (e1.trans e2) f1, fun I2 f2 => ⟨er.xs, fun a na => s_asg (ev_var rfl) fun I3 f3 => kept (((e1.trans e2).trans f1).trans f2) a na I3 f3⟩⟩)
      · exact do_callS (ea_cons (ev_var rfl) (ea_cons (ev_var rfl) (ea_cons (ev_var rfl) ea_nil)) H2 (Ex.refl _) _ fun I1 f1 => ⟨p, one (e1.trans e2) f1, fun I2 f2 => ⟨er.xs, fun a na => s_asg (ev_var rfl) fun I3 f3 => kept (((e1.trans e2).trans f1).trans f2) a na I3 f3⟩⟩)
    · obtain ⟨e2, x, tc, hσ⟩ := hM
      subst hσ
      refine s_ret (v := .bl true) (ev_andV (a := true) (b := true) (ev_isC (ev_var rfl) ev_c (.own _) tc er.ht) (fun _ => ev_isC (ev_var rfl) ev_c (.ty _) tc er.hv)) fun H5 e5 => q _ H5 (e2.trans e5) rfl
end
end K73
end
section
namespace K73
open PySem PySem.Spec PyProof.Rows L2 Evl RZ Dw M20 M25 CL LD
section
variable {P : Program} {w : World} {K : PySem.W.Frag} {mg : Str → Option Value} {base : Heap}
/-- nothing has changed but at some places -/
def OffL (as : List Addr) (H H' : Hp) : Prop := ∀ b o, b ∉ as → H b = some o → H' b = some o
theorem OffL.trans {as : List Addr} {H H1 H2 : Hp} (a : OffL as H H1) (b : OffL as H1 H2) : OffL as H H2 := fun x o n h => b x o n (a x o n h)
theorem OffL.of {as : List Addr} {H H' : Hp} (e : Ex H H') : OffL as H H' := fun b o _ h => e b o h
theorem OffL.et {as : List Addr} {H H' : Hp} (e : OffL as H H') (h : ∀ b ∈ as, ∃ xs, H b = some (.lst xs)) : ET K H H' := fun a xs q => by
  have no : ∀ o, H a = some o → (∀ ys, o ≠ .lst ys) → a ∉ as := fun o ho hn z => by
    obtain ⟨ys, hy⟩ := h a z
    rw [hy] at ho
    exact hn ys (Option.some.inj ho).symm
  rcases q with (q | ⟨o, q⟩) | q
  · exact .inl (.inl (e _ _ (no _ q (fun _ z => by cases z)) q))
  · exact .inl (.inr ⟨o, e _ _ (no _ q (fun _ z => by cases z)) q⟩)
  · exact .inr q
theorem gb_six {F : List Nat} (l : F.length ≤ 6) (lo : ∀ y ∈ F, y ≤ 1000) : Gb 5 1000 (dL F) := (Gd.gb (gd_lst (k := 0) (W := 10) (L := 6) (fun d hd => by
  obtain ⟨n, hn, rfl⟩ := List.mem_map.mp hd
  exact gd_int (lo n hn)) (by rw [List.length_map]; exact l))).mono (by decide) (by decide)
theorem dz_nats {K : PySem.W.Frag} {H : Hp} {p c : Addr} : ∀ F : List Nat, DzAll K p c H (F.map vi) (F.map fun n => .int ((n : Nat) : Int))
  | [] => .nil
  | x :: F => .cons (.int _) (dz_nats F)
theorem form_row {p p2 : MArg} {F : List Nat} (l : F.length = p.2.1) (lo : ∀ y ∈ F, y < p2.2.1) : formB p.2.1 p2.2.1 (dL F) = true ∧ natsOf (dL F) = F := by
  have e : listOf (dL F) = F.map fun n => .int ((n : Nat) : Int) := rfl
  refine ⟨?_, ?_⟩
  · rw [formB, e, List.length_map, decide_eq_true l, List.all_map]
    have : F.all (belowB (p2.2.1 : Int) ∘ fun n => PyData.int ((n : Nat) : Int)) = true := by
      rw [List.all_eq_true]
      intro y hy
      have := lo y hy
      show (decide ((0 : Int) ≤ (y : Int)) && decide ((y : Int) < (p2.2.1 : Int))) = true
      rw [decide_eq_true (by omega), decide_eq_true (by omega)]
      rfl
    rw [this]
    rfl
  · unfold natsOf
    rw [e, List.map_map]
    have : (natOf ∘ fun n => PyData.int ((n : Nat) : Int)) = id := by
      funext n
      show (n : Int).toNat = n
      omega
    rw [this, List.map_id]
end
end K73
end
section
namespace K73
open PySem PySem.Spec PyProof.Rows L2 Evl RZ Dw M20 M25 CL LD PySem.W
/-! ### pairs of rows, in their order -/
def dP (b : List Nat × List Nat) : PyData := .tuple [dL b.1, dL b.2]
def encI (b : List Nat × List Nat) : List Int := ia b.1 ++ ia b.2
theorem beq_int (x y : Int) : (x == y) = decide (x = y) := by
  rw [Bool.eq_iff_iff]
  simp
theorem eqv_ints : ∀ a b : List Int, PyData.eqvAll (a.map .int) (b.map .int) = decide (a = b)
  | [], [] => rfl
  | [], _ :: _ => rfl
  | _ :: _, [] => rfl
  | x :: a, y :: b => by
    rw [List.map_cons, List.map_cons, PyData.eqvAll, eqv_ints a b]
    simp [PyData.eqv, beq_int]
theorem dL_ia (l : List Nat) : dL l = .list ((ia l).map .int) := by
  unfold dL ia
  rw [List.map_map]
  rfl
theorem app_same : ∀ (c : List Int) {a b : List Int}, (c ++ a < c ++ b) ↔ a < b
  | [], _, _ => Iff.rfl
  | x :: c, a, b => by
    rw [List.cons_append, List.cons_append, List.cons_lt_cons_iff, app_same c]
    constructor
    · rintro (h | ⟨_, h⟩)
      · omega
      · exact h
    · exact fun h => .inr ⟨rfl, h⟩
theorem dL_al (a b : List Nat) : alike (dL a) (dL b) = true := by
  rw [dL_ia, dL_ia]
  simp [alike, alike_ints]
theorem dP_al (a b : List Nat × List Nat) : alike (dP a) (dP b) = true := by
  unfold dP
  simp [alike, alikeAll, dL_al]
theorem dL_dep (l : List Nat) : (dL l).depth ≤ 1 := by
  have : ∀ l : List Nat, PyData.depthAll (l.map fun n => PyData.int ((n : Nat) : Int)) ≤ 0 := fun l => by
    induction l with
    | nil => simp [PyData.depthAll]
    | cons x l ih =>
      rw [List.map_cons, PyData.depthAll, PyData.depth]
      omega
  have := this l
  unfold dL
  rw [PyData.depth]
  omega
theorem dP_dep (a : List Nat × List Nat) : (dP a).depth ≤ 40 := by
  have h1 := dL_dep a.1
  have h2 := dL_dep a.2
  unfold dP
  simp only [PyData.depth, PyData.depthAll]
  omega
theorem dP_lt {a b : List Nat × List Nat} (l : a.1.length = b.1.length) : dataLt (dP a) (dP b) = decide (encI a < encI b) := by
  unfold dP encI
  rw [dataLt_pair (dL_al _ _) (dL_al _ _)]
  have et : ∀ x y : List Nat, (dL x).eqv (dL y) = decide (ia x = ia y) := fun x y => by
    rw [dL_ia, dL_ia, PyData.eqv]
    exact eqv_ints _ _
  have lt : ∀ x y : List Nat, dataLt (dL x) (dL y) = decide (ia x < ia y) := fun x y => by
    rw [dL_ia, dL_ia, dataLt_list]
    exact dataLt_ints _ _
  have len : (ia a.1).length = (ia b.1).length := by rw [ia_len, ia_len, l]
  rw [et, et, lt, lt]
  by_cases h1 : ia a.1 = ia b.1
  · rw [if_pos (decide_eq_true h1), h1]
    have e : (ia b.1 ++ ia a.2 < ia b.1 ++ ia b.2) ↔ ia a.2 < ia b.2 := app_same _
    by_cases h2 : ia a.2 = ia b.2
    · rw [if_pos (decide_eq_true h2), h2, decide_eq_false (List.lt_irrefl _)]
    · rw [if_neg (by rw [decide_eq_false h2]; decide), decide_eq_decide]
      exact e.symm
  · rw [if_neg (by rw [decide_eq_false h1]; decide), decide_eq_decide]
    constructor
    · exact fun h => app_lt _ _ len h
    · intro h
      by_cases h2 : ia a.1 < ia b.1
      · exact h2
      · have h3 : ia b.1 < ia a.1 := by
          have le : ia b.1 ≤ ia a.1 := List.not_lt.mp h2
          rcases List.le_iff_lt_or_eq.mp le with z | z
          · exact z
          · exact absurd z.symm h1
        exact absurd (List.lt_trans h (app_lt (ia b.2) (ia a.2) len.symm h3)) (List.lt_irrefl _)
/-- all pairs of two lists of rows -/
def prs (L1 L2 : List (List Nat)) : List (List Nat × List Nat) := L1.flatMap fun f => L2.map fun s => (f, s)
theorem prs_up {n m k : Nat} {P1 P2 : List Nat → Bool} : (prs ((rows n k).filter P1) ((rows m k).filter P2)).Pairwise fun a b => encI a < encI b := by
  unfold prs
  rw [List.pairwise_flatMap]
  refine ⟨fun f _ => ?_, ?_⟩
  · rw [List.pairwise_map]
    exact ((rows_lex m k).filter _).imp fun h => (app_same _).mpr h
  · have h := ((rows_lex n k).filter P1)
    refine List.Pairwise.imp_of_mem (fun {a b} ha hb h x hx y hy => ?_) h
    obtain ⟨_, _, rfl⟩ := List.mem_map.mp hx
    obtain ⟨_, _, rfl⟩ := List.mem_map.mp hy
    refine app_lt _ _ ?_ h
    rw [ia_len, ia_len, (rows_of (List.mem_filter.mp ha).1).1, (rows_of (List.mem_filter.mp hb).1).1]
theorem prs_fst {n m k : Nat} {P1 P2 : List Nat → Bool} {x : List Nat × List Nat} (h : x ∈ prs ((rows n k).filter P1) ((rows m k).filter P2)) : x.1.length = k ∧ x.2.length = k ∧ (∀ y ∈ x.1, y < n) ∧ ∀ y ∈ x.2, y < m := by
  unfold prs at h
  obtain ⟨f, hf, h⟩ := List.mem_flatMap.mp h
  obtain ⟨s, hs, rfl⟩ := List.mem_map.mp h
  have a := rows_of (List.mem_filter.mp hf).1
  have b := rows_of (List.mem_filter.mp hs).1
  exact ⟨a.1, b.1, a.2, b.2⟩
theorem prs_len (L1 L2 : List (List Nat)) : (prs L1 L2).length = L1.length * L2.length := by
  unfold prs
  induction L1 with
  | nil => show 0 = 0 * _; rw [Nat.zero_mul]
  | cons x L ih =>
    rw [List.flatMap_cons, List.length_append, List.length_map, ih, List.length_cons, Nat.succ_mul, Nat.add_comm]
theorem gd_dP {x : List Nat × List Nat} (h1 : x.1.length ≤ 36) (h2 : x.2.length ≤ 36) (l1 : ∀ y ∈ x.1, y ≤ 1000) (l2 : ∀ y ∈ x.2, y ≤ 1000) : Gd 2 (2 * (396 + 1)) (dP x) := gd_tup (fun d hd => by
  rcases List.mem_cons.mp hd with e | hd
  · rw [e]; exact gd_dL l1 h1
  · rw [List.mem_singleton.mp hd]; exact gd_dL l2 h2) (by show 2 ≤ 2; decide)
section
variable {P : Program} {w : World} {K : PySem.W.Frag} {mg : Str → Option Value} {base : Heap} {σ : L2.St} {H H0 : Hp} {ta tb te tl : TE} {C G : Addr}
/-- a pair of new lists -/
def PairV (K : PySem.W.Frag) (H0 : Hp) (v : V) (x : List Nat × List Nat) (H : Hp) : Prop := ∃ t a b, v = .ref t ∧ SqT K H t [.ref a, .ref b] ∧ H a = some (.lst (x.1.map vi)) ∧ H b = some (.lst (x.2.map vi)) ∧ H0 a = none ∧ H0 b = none
theorem PairV.ex {v : V} {x : List Nat × List Nat} {H H' : Hp} (e : Ex H H') (h : PairV K H0 v x H) : PairV K H0 v x H' := let ⟨t, a, b, q, s, h1, h2, n1, n2⟩ := h; ⟨t, a, b, q, ex_t e s, e _ _ h1, e _ _ h2, n1, n2⟩
theorem PairV.low {H1 : Hp} {v : V} {x : List Nat × List Nat} {H : Hp} (e : Ex H0 H1) (h : PairV K H1 v x H) : PairV K H0 v x H := let ⟨t, a, b, q, s, h1, h2, n1, n2⟩ := h; ⟨t, a, b, q, s, h1, h2, fresh_back e n1, fresh_back e n2⟩
theorem PairV.dp {v : V} {x : List Nat × List Nat} {H : Hp} (h : PairV K H0 v x H) : Dp K H v (dP x) := let ⟨t, a, b, q, s, h1, h2, _⟩ := h; by
  subst q
  exact .tup s (.cons (dp_ln h1) (.cons (dp_ln h2) .nil))
theorem PairV.cz {v : V} {x : List Nat × List Nat} {H : Hp} (h : PairV K H0 v x H) : Cz K H0 H v (dP x) := fun H'' kp => let ⟨t, a, b, q, s, h1, h2, n1, n2⟩ := h; by
  subst q
  have en : EN H H'' := fun a u n z => kp a u (.inr n) z
  exact .tup (en.et _ _ s) (.cons (dp_ln (kp _ _ (.inl n1) h1)) (.cons (dp_ln (kp _ _ (.inl n2) h2)) .nil))
theorem dps_paired {β : Type} {f : β → PyData} {H : Hp} : ∀ {vs : List V} {L : List β}, DpAll K H vs (L.map f) → Paired (fun v b => Dp K H v (f b)) vs L
  | [], [], _ => .nil
  | [], _ :: _, h => by cases h
  | _ :: _, [], h => by cases h
  | v :: vs, b :: L, h => by
    cases h with
    | cons x r => exact .cons x (dps_paired r)
theorem ep_two {A B : List Nat} (ha : EvL ta σ H (A.map vi)) (hb : EvL tb σ H (B.map vi)) : EvP (tTup (tCons ta (tCons tb tNil))) σ H (fun v H' => PairV K H v (A, B) H') := fun H1 e Q q =>
  do_tup (do_cons (ha H1 e _ fun a H2 na e2 hA => do_cons (hb H2 (e.trans e2) _ fun b H3 nb e3 hB => do_nil ⟨by show 2 ≤ sizeLine; decide, fun r nr =>
    q (.ref r) _ (e2.trans (e3.trans (Ex.new nr))) ⟨r, a, b, rfl, st_of upd_same, (e3.trans (Ex.new nr)) _ _ hA, (Ex.new nr) _ _ hB, fresh_back e na, fresh_back (e.trans e2) nb⟩⟩)))
theorem el_to {xs ys : List V} (h : EvL te σ H xs) (e : xs = ys) : EvL te σ H ys := e ▸ h
/-- a comprehension over a list of numbers -/
theorem el_rowL {xa : Addr} {row : List Nat} {j : Nat} {u : Nat → Nat} (h : Ev tl σ H (.ref xa)) (hx : H xa = some (.lst (row.map vi))) (l : row.length ≤ 40000) (hwp : ∀ x, wipe ((wipe σ [j]).set j (some x)) [j] = wipe σ [j])
    (hu : ∀ k H1, Ex H H1 → Ev te ((wipe σ [j]).set j (some (vi k))) H1 (vi (u k))) : EvL (tLc (iList K tl) (gName j) tYes te [j]) σ H ((row.map u).map vi) := by
  have z := el_lcL (K := K) (tl := tl) (t := tYes) (te := te) (σ := σ) (j := j) (vs := [j]) (fun _ => true) (fun i => vi (u (row.getD i 0))) h (sq_of hx) (by rw [List.length_map]; exact l) hwp (fun _ _ _ _ _ => et_yes) (fun i x H5 e5 hx _ => by
    rw [List.getElem?_map] at hx
    cases hk : row[i]? with
    | none => rw [hk] at hx; cases hx
    | some k =>
      rw [hk] at hx
      cases Option.some.inj hx
      have : row.getD i 0 = k := by rw [List.getD_eq_getElem?_getD, hk]; rfl
      rw [this]
      exact hu k H5 e5)
  rw [given_all] at z
  have e : (List.range (row.map vi).length).map (fun i => vi (u (row.getD i 0))) = (row.map u).map vi := by
    rw [List.length_map]
    have h1 : (List.range row.length).map (fun i => vi (u (row.getD i 0))) = (((List.range row.length).map fun i => row.getD i 0).map u).map vi := by
      rw [List.map_map, List.map_map]
      rfl
    rw [h1, Dw.range_getD]
  rw [e] at z
  exact z
/-- judged is not None, of a row -/
theorem et_fitsN {ta : TA} {p p2 : MArg} {u v w : V} {b : Addr} {F : List Nat} (h : EvA ta σ H [u, v, w, .ref b]) (hm : MA K H u v p) (hw : Mdl K H w p2.2.1 p2.2.2) (ok : MOk p) (ok2 : MOk p2) (es : p2.1 = p.1) (hb : H b = some (.lst (F.map vi))) (l : F.length = p.2.1) (lo : ∀ y ∈ F, y < p2.2.1) (no : fod p p2 F = none) : EvT (tTest (tOp (fun x y H Q => y = .non ∧ Q (.bl (!decide (x = .non))) H) (tCall (sp_lead_judged K) [] E0 ta) (tC .non))) σ H false := fun H1 e Q q => by
  have n6 := ok2.2.n6
  have m6 := ok.2.n6
  have gb : Gb 5 1000 (dL F) := gb_six (by omega) (fun y hy => by have := lo y hy; omega)
  obtain ⟨f1, f2⟩ := form_row (p := p) (p2 := p2) l lo
  refine do_test (do_op (do_evP (ep_call ((b + 1, b + 1), p, p2, dL F) (fun H2 e2 => h H2 (e.trans e2)) (fun H2 e2 => ⟨⟨_, _, _, _, rfl, hm.ex (e.trans e2), hw.ex (e.trans e2), .lst ((e.trans e2) _ _ hb) (Nat.ne_of_lt (Nat.lt_succ_self _)) (Nat.ne_of_lt (Nat.lt_succ_self _)) (dz_nats F)⟩, ok, ok2, es, by show (F.map _).length ≤ 1000; rw [List.length_map]; omega⟩)) fun r H2 e2 hr => do_ev ev_c fun H3 e3 => ⟨rfl, _, rfl, ?_⟩))
  replace hr : Dp K H2 r (leadW p p2 (dL F)) := hr
  rw [leadW, if_pos f1, f2, no] at hr
  have z := q H3 (e2.trans e3)
  cases hr
  rw [decide_eq_true rfl]
  exact z
/-- sorted(..) == sorted(..), both the same pairs -/
theorem ev_sortSame {x y : Addr} {vs ws : List V} {L M : List (List Nat × List Nat)} {n m k : Nat} {P1 P2 : List Nat → Bool} (ha : Ev ta σ H (.ref x)) (hb : Ev tb σ H (.ref y)) (hx : H x = some (.lst vs)) (hy : H y = some (.lst ws)) (pv : Paired (fun v b => Dp K H v (dP b)) vs L) (pw : Paired (fun v b => Dp K H v (dP b)) ws M)
    (hL : L.Perm (prs ((rows n k).filter P1) ((rows m k).filter P2))) (hM : M.Perm (prs ((rows n k).filter P1) ((rows m k).filter P2))) (n6 : n ≤ 6) (m6 : m ≤ 6) (k2 : k ≤ 2) :
    Ev (tOp (rEqD K) (tCB (rSortD K) (tCons ta tNil)) (tCB (rSortD K) (tCons tb tNil))) σ H (.bl true) := fun H1 e Q q => by
  have lt : ∀ {L : List (List Nat × List Nat)}, L.Perm (prs ((rows n k).filter P1) ((rows m k).filter P2)) → ∀ x ∈ L, ∀ y ∈ L, dataLt (dP x) (dP y) = decide (encI x < encI y) := fun {L} hp x hx y hy => dP_lt (by rw [(prs_fst (hp.mem_iff.mp hx)).1, (prs_fst (hp.mem_iff.mp hy)).1])
  have g : Gd 3 (1296 * (2 * (396 + 1) + 1)) (.list ((prs ((rows n k).filter P1) ((rows m k).filter P2)).map dP)) := gd_lst (fun d hd => by
    obtain ⟨x, hx, rfl⟩ := List.mem_map.mp hd
    obtain ⟨h1, h2, h3, h4⟩ := prs_fst hx
    exact gd_dP (by omega) (by omega) (fun y hy => by have := h3 y hy; omega) (fun y hy => by have := h4 y hy; omega)) (by
    rw [List.length_map, prs_len]
    have a := List.length_filter_le P1 (rows n k)
    have b := List.length_filter_le P2 (rows m k)
    rw [rows_len'] at a b
    have a2 := pow_36 n6 k2
    have b2 := pow_36 m6 k2
    exact Nat.le_trans (Nat.mul_le_mul (Nat.le_trans a a2) (Nat.le_trans b b2)) (by decide))
  have dps : ∀ {H' : Hp} {vs : List V} {L : List (List Nat × List Nat)}, Paired (fun v b => Dp K H' v (dP b)) vs L → DpAll K H' vs (L.map dP) := fun {H' vs L} pr => by
    induction pr with
    | nil => exact .nil
    | cons x r ih => exact .cons x ih
  refine do_op (do_cb (do_cons (do_ev (ha.mono e) fun H2 e2 => do_nil ?_)))
  have e02 := e.trans e2
  refine do_sortE (K := K) (R := fun v b H => Dp K H v (dP b)) (f := dP) (g := encI) (e02 _ _ hx) (paired_imp (fun _ _ z => dpEx e02 z) pv) (fun v b h => h) (AllAlike.of fun b b' => dP_al b b') (Sortable.tuples fun b => ⟨_, _, rfl⟩) (fun b _ => dP_dep b) (fun v b H1 e h => dpEx e h) (lt hL) hL prs_up fun p vs' H3 np e3 hp pv' => ?_
  refine do_cb (do_cons (do_ev (hb.mono (e02.trans e3)) fun H4 e4 => do_nil ?_))
  have e04 := (e02.trans e3).trans e4
  refine do_sortE (K := K) (R := fun v b H => Dp K H v (dP b)) (f := dP) (g := encI) (e04 _ _ hy) (paired_imp (fun _ _ z => dpEx e04 z) pw) (fun v b h => h) (AllAlike.of fun b b' => dP_al b b') (Sortable.tuples fun b => ⟨_, _, rfl⟩) (fun b _ => dP_dep b) (fun v b H1 e h => dpEx e h) (lt hM) hM prs_up fun p2 ws' H5 np2 e5 hp2 pw' => ?_
  refine ⟨_, _, .lst (sq_of ((e4.trans e5) _ _ hp)) (dps (paired_imp (fun _ _ z => dpEx (e4.trans e5) z) pv')), .lst (sq_of hp2) (dps pw'), g.shaped (by decide), g.shaped (by decide), ?_⟩
  rw [SeqAt.eqv_refl _ g.lay]
  exact q H5 (e2.trans (e3.trans (e4.trans e5)))
end
end K73
end
section
namespace K73
open PySem PySem.Spec PyProof.Rows L2 Evl RZ Dw M20 M25 CL LD
section
variable {P : Program} {w : World} {K : PySem.W.Frag} {mg : Str → Option Value} {base : Heap} {σ : L2.St} {H H0 : Hp} {ta tb te tl : TE} {C G : Addr}
theorem mdl_gd {p : MArg} (ok : MOk p) : Gd 3 3178 (dM p.2.1 p.2.2) := by
  have n6 := ok.2.n6
  refine gd_mdl (by omega) (fun tb htb => ?_) (by rw [ok.2.len]; exact ok.1.l4)
  obtain ⟨i, hi⟩ := List.mem_iff_getElem?.mp htb
  obtain ⟨il, e⟩ := List.getElem?_eq_some_iff.mp hi
  have i2 : i < p.1.length := by have := ok.2.len; omega
  have t := ok.2.tab i i2 il
  have p2' := ok.1.pl _ (List.getElem_mem i2)
  have b := pow_36 n6 p2'
  rw [e] at t
  refine ⟨fun k hk => ?_, by rw [t.len]; exact b⟩
  obtain ⟨j, hj⟩ := List.mem_iff_getElem?.mp hk
  obtain ⟨jl, ej⟩ := List.getElem?_eq_some_iff.mp hj
  have := t.low j (by rw [← t.len]; exact jl)
  have eg : g tb j = k := Option.some.inj ((g_eq jl).symm.trans hj)
  omega
theorem el_rngD {due w : V} {N m : Nat} {ts us : List (List Nat)} (h4 : σ[4]? = some (some due)) (hd : Mdl K H due N ts) (hN : N ≤ 40000) (hwp : ∀ x, wipe ((wipe σ [14]).set 14 (some x)) [14] = wipe σ [14]) (h2 : ∀ x, ((wipe σ [14]).set 14 x)[2]? = some (some w)) (h14 : ∀ x, ((wipe σ [14]).set 14 (some x))[14]? = some (some x)) (hw : Mdl K H w m us) (m0 : 0 < m) (mb : m ≤ 100000) :
    EvL (tLc (iRng1 (tCons (tOp (rIxT K) (tVar 4) (tC (.int 0))) tNil)) (gName 14) tYes (tOp (rI CDiv fun i j => .int (i / j)) (tVar 14) (tOp (rIxT K) (tVar 2) (tC (.int 0)))) [14]) σ H ((dv m (List.range N)).map vi) :=
  el_to (el_lcR (ea_cons (ev_size h4 hd) ea_nil) (fun i => vi (i / m)) hN hwp (fun i H1 e1 hi => ev_divM (ev_var (h14 _)) (ev_size (h2 _) (hw.ex e1)) m0 mb)) (by unfold dv; rw [List.map_map]; rfl)
theorem el_rngM {due w : V} {N m : Nat} {ts us : List (List Nat)} (h4 : σ[4]? = some (some due)) (hd : Mdl K H due N ts) (hN : N ≤ 40000) (hwp : ∀ x, wipe ((wipe σ [14]).set 14 (some x)) [14] = wipe σ [14]) (h2 : ∀ x, ((wipe σ [14]).set 14 x)[2]? = some (some w)) (h14 : ∀ x, ((wipe σ [14]).set 14 (some x))[14]? = some (some x)) (hw : Mdl K H w m us) (m0 : 0 < m) :
    EvL (tLc (iRng1 (tCons (tOp (rIxT K) (tVar 4) (tC (.int 0))) tNil)) (gName 14) tYes (tOp (rI (fun _ j => 0 < j) fun i j => .int (i % j)) (tVar 14) (tOp (rIxT K) (tVar 2) (tC (.int 0)))) [14]) σ H ((md m (List.range N)).map vi) :=
  el_to (el_lcR (ea_cons (ev_size h4 hd) ea_nil) (fun i => vi (i % m)) hN hwp (fun i H1 e1 hi => ev_modM (ev_var (h14 _)) (ev_size (h2 _) (hw.ex e1)) m0)) (by unfold md; rw [List.map_map]; rfl)
theorem ep_sides {p p2 : MArg} {u v w : V} (h0 : σ[0]? = some (some u)) (h1 : σ[1]? = some (some v)) (h2 : σ[2]? = some (some w)) (hp : PrOk K (p, p2) [u, v, w] H) : EvP (tCall (sp_sides K) [] E0 (tCons (tVar 0) (tCons (tVar 1) (tCons (tVar 2) tNil)))) σ H (fun v H' => Dp K H' v (dP (dv p2.2.1 (List.range (p.2.1 * p2.2.1)), md p2.2.1 (List.range (p.2.1 * p2.2.1))))) := fun H1 e Q q =>
  ea_cons (ev_var h0) (ea_cons (ev_var h1) (ea_cons (ev_var h2) ea_nil)) H1 (Ex.refl _) _ fun H2 e2 => ⟨(p, p2), ⟨hp.1.ex (e.trans e2), hp.2⟩, fun t l1 l2 H3 e3 ht _ _ _ hl1 hl2 => q _ H3 (e2.trans e3) (.tup ht (.cons (dp_ln hl1) (.cons (dp_ln hl2) .nil)))⟩
theorem PairV.off {as : List Addr} {v : V} {x : List Nat × List Nat} {H H' : Hp} (o : OffL as H H') (hl : ∀ b ∈ as, ∃ xs, H b = some (.lst xs)) (old : ∀ b ∈ as, H0 b ≠ none) (h : PairV K H0 v x H) : PairV K H0 v x H' :=
  let ⟨t, a, b, q, s, h1, h2, n1, n2⟩ := h
  ⟨t, a, b, q, o.et hl _ _ s, o _ _ (fun z => old _ z n1) h1, o _ _ (fun z => old _ z n2) h2, n1, n2⟩
theorem prs_snoc {L : List (List Nat)} {M : List (List Nat)} {i : Nat} {f : List Nat} (h : L[i]? = some f) : prs (L.take (i + 1)) M = prs (L.take i) M ++ M.map fun s => (f, s) := by
  unfold prs
  rw [List.take_add_one, h, List.flatMap_append]
  congr 1
  show List.flatMap _ [f] = _
  rw [List.flatMap_singleton]
theorem lvl_few {n m : Nat} (n6 : n ≤ 6) (m2 : m ≤ 2) (cs : List LC) : (lvl n cs m).length ≤ 1600 := by
  rw [lvl_eq]
  have a := List.length_filter_le (allOk n (cs.filter fun c => decide (grt c < m))) (rows n m)
  have b := pow_36 n6 m2
  rw [rows_len'] at a
  omega
def RightPre (K : PySem.W.Frag) (z : (MArg × MArg) × MArg) (vs : List V) (H : Hp) : Prop := (∃ u v w t, vs = [u, v, w, t] ∧ MA K H u v z.1.1 ∧ Mdl K H w z.1.2.2.1 z.1.2.2.2 ∧ Mdl K H t z.2.2.1 z.2.2.2) ∧ MOk z.1.1 ∧ MOk z.1.2 ∧ MOk z.2 ∧ z.1.2.1 = z.1.1.1 ∧ z.1.1.1 = z.2.1 ∧ z.1.1.2.1 * z.1.2.2.1 ≤ 6 ∧ z.2.2.1 ≤ 2
def sp_right (K : PySem.W.Frag) : Sp := spX (RightPre K) (fun _ v _ => v = .bl true)
theorem c_right (T : Txt mg) (D : Df K mg "_law_right" s_right ["_law_signature_here", "_law_one", "_law_other", "_law_third"]) (c_both : Cl P w K mg base 2 "_law_both" (sp_product K)) (c_product : Cl P w K mg base 10 "product" (sp_product K)) (c_sides : Cl P w K mg base 10 "sides" (sp_sides K)) (c_leads : Cl P w K mg base 9 "leads" (sp_leads K)) (c_lead_judged : Cl P w K mg base 9 "lead_judged" (sp_lead_judged K)) : ClG P w K mg base 11 "_law_right" (sp_right K) := by
  refine clg_of (k := 10) D sc_right (fun vs H Q E h => ?_) (fun f cdv Ar outer s H vs Q E gs hr h => ?_)
  · obtain ⟨z, ⟨⟨u, v, w, x, rfl, _⟩, _⟩, _⟩ := h
    rfl
  · obtain ⟨⟨⟨p, p2⟩, t⟩, ⟨⟨u, v, w, x, rfl, hm, hw, hx⟩, ok, ok2, ok3, es, et, le, t2⟩, q⟩ := h
    refine ⟨_, (pss_cons (ps_set (i := 4) sc_right.nd rfl (.inl rfl) (pe_cl c_both hr (by first | decide | omega) (by rfl) (pa_cons (pv 0) (pa_cons (pv 1) (pa_cons (pv 2) pa_nil)))))
      (pss_cons (ps_set (i := 5) sc_right.nd rfl (.inl rfl) (pe_cl c_product hr (by first | decide | omega) (by rfl) (pa_cons (pv 0) (pa_cons (pv 1) (pa_cons (pv 2) pa_nil)))))
      (pss_cons (ps_set (i := 6) sc_right.nd rfl (.inl rfl) (pe_cl c_sides hr (by first | decide | omega) (by rfl) (pa_cons (pv 0) (pa_cons (pv 1) (pa_cons (pv 2) pa_nil)))))
      (pss_cons (ps_if (PW.pt (pw_or (pt_cmpR (op_neD hr.units) (pv 5) (pv 4) (nomark _)) (pw_or (pt_not (pt_val (pe_callB call_isi (by rfl) T.z_isinstance (by decide +kernel) (pa_cons (pv 6) (pa_cons (pe_ty "tuple" (by rfl) T.z_tuple (by decide +kernel)) pa_nil))))) (pw_or1 (pt_cmpR op_ne (pe_callB call_len_seq (by rfl) T.z_len PySem.boot_len (pa_cons (pv 6) pa_nil)) pe_int (nomark _))))))
        (pss_one (ps_ret pe_bl))
        pss_nil)
      (pss_cons (ps_if (pt_cmpR (op_neD hr.units) (pv 6) (pe_tup (pa_cons (pe_lc (own := [("_law_k", 14)]) (g := (gName 14)) (by rfl) sc_right.nd (pi_range1 (by rfl) T.z_range (pa_cons (pe_ix ix_tup (pv 4) pe_int (fun _ _ => rfl)) pa_nil)) (blkOk_by (own := [("_law_k", 14)]) (N := ["_law_signature_here", "_law_one", "_law_other", "_law_third", "_law_due", "_law_found", "_law_ends", "_law_model_here", "_law_end", "_law_pairs", "_law_first", "_law_met", "_law_kept", "_law_second", "_law_k", "_law_lead"]) (sc := (defScope s_right)) (by decide +kernel)) (fun _ _ _ _ _ => (pg_name (i := 14) sc_right.nd rfl (.inl rfl))) (fun _ _ _ _ _ => pts_nil) (fun _ _ _ _ _ => (pe_op op_fdiv (pv 14) (pe_ix (ix_tupK K) (pv 2) pe_int (fun _ _ => rfl))))) (pa_cons (pe_lc (own := [("_law_k", 14)]) (g := (gName 14)) (by rfl) sc_right.nd (pi_range1 (by rfl) T.z_range (pa_cons (pe_ix ix_tup (pv 4) pe_int (fun _ _ => rfl)) pa_nil)) (blkOk_by (own := [("_law_k", 14)]) (N := ["_law_signature_here", "_law_one", "_law_other", "_law_third", "_law_due", "_law_found", "_law_ends", "_law_model_here", "_law_end", "_law_pairs", "_law_first", "_law_met", "_law_kept", "_law_second", "_law_k", "_law_lead"]) (sc := (defScope s_right)) (by decide +kernel)) (fun _ _ _ _ _ => (pg_name (i := 14) sc_right.nd rfl (.inl rfl))) (fun _ _ _ _ _ => pts_nil) (fun _ _ _ _ _ => (pe_op op_mod (pv 14) (pe_ix (ix_tupK K) (pv 2) pe_int (fun _ _ => rfl))))) pa_nil))) (nomark _))
        (pss_one (ps_ret pe_bl))
        pss_nil)
      (pss_cons (ps_for PassesOwn.never (by rfl) (pi_list (pe_lst (pa_cons (pe_tup (pa_cons (pv 1) (pa_cons (pe_ix ix_tup (pv 6) pe_int (fun _ _ => rfl)) pa_nil))) (pa_cons (pe_tup (pa_cons (pv 2) (pa_cons (pe_ix ix_tup (pv 6) pe_int (fun _ _ => rfl)) pa_nil))) pa_nil)))) (pg_tup (by rfl) (pgs_cons (pg_name (i := 7) sc_right.nd rfl (.inl rfl)) (pgs_cons (pg_name (i := 8) sc_right.nd rfl (.inl rfl)) pgs_nil)))
        (pss_one (ps_if (pt_cmpR op_notN (pe_cl c_lead_judged hr (by first | decide | omega) (by rfl) (pa_cons (pv 0) (pa_cons (pv 5) (pa_cons (pv 7) (pa_cons (pv 8) pa_nil))))) pe_non (nomark _))
          (pss_one (ps_ret pe_bl))
          pss_nil)))
      (pss_cons (ps_set (i := 9) sc_right.nd rfl (.inl rfl) (pe_lst pa_nil))
      (pss_cons (ps_for PassesOwn.never (by rfl) (pi_list (pe_cl c_leads hr (by first | decide | omega) (by rfl) (pa_cons (pv 0) (pa_cons (pv 3) (pa_cons (pv 1) pa_nil))))) (pg_name (i := 10) sc_right.nd rfl (.inr rfl))
        (pss_one (ps_set (i := 9) sc_right.nd rfl (.inl rfl) (pe_op op_cat (pv 9) (pe_lc (own := [("_law_second", 13)]) (g := (gName 13)) (by rfl) sc_right.nd (pi_list (pe_cl c_leads hr (by first | decide | omega) (by rfl) (pa_cons (pv 0) (pa_cons (pv 3) (pa_cons (pv 2) pa_nil))))) (blkOk_by (own := [("_law_second", 13)]) (N := ["_law_signature_here", "_law_one", "_law_other", "_law_third", "_law_due", "_law_found", "_law_ends", "_law_model_here", "_law_end", "_law_pairs", "_law_first", "_law_met", "_law_kept", "_law_second", "_law_k", "_law_lead"]) (sc := (defScope s_right)) (by decide +kernel)) (fun _ _ _ _ _ => (pg_name (i := 13) sc_right.nd rfl (.inl rfl))) (fun _ _ _ _ _ => pts_nil) (fun _ _ _ _ _ => (pe_tup (pa_cons (pv 10) (pa_cons (pv 13) pa_nil)))))))))
      (pss_cons (ps_setLc (i := 11) (own := [("_law_lead", 15)]) (g := (gName 15)) (by rfl) sc_right.nd rfl rfl (sw_true rfl rfl rfl (by decide +kernel)) (pi_list (pe_cl c_leads hr (by first | decide | omega) (by rfl) (pa_cons (pv 0) (pa_cons (pv 3) (pa_cons (pv 5) pa_nil))))) (blkOk_by (own := [("_law_lead", 15)]) (N := ["_law_signature_here", "_law_one", "_law_other", "_law_third", "_law_due", "_law_found", "_law_ends", "_law_model_here", "_law_end", "_law_pairs", "_law_first", "_law_met", "_law_kept", "_law_second", "_law_k", "_law_lead"]) (sc := (defScope s_right)) (by decide +kernel)) (fun _ _ _ _ _ => (pg_name (i := 15) sc_right.nd rfl (.inl rfl))) (fun _ _ _ _ _ => pts_nil) (fun _ _ _ _ _ => (pe_tup (pa_cons (pe_lc (own := [("_law_k", 14)]) (g := (gName 14)) (by rfl) sc_right.nd (pi_listK K (pv 15)) (blkOk_by (own := [("_law_k", 14)]) (N := ["_law_signature_here", "_law_one", "_law_other", "_law_third", "_law_due", "_law_found", "_law_ends", "_law_model_here", "_law_end", "_law_pairs", "_law_first", "_law_met", "_law_kept", "_law_second", "_law_k", "_law_lead"]) (sc := { kind := .function, names := [(".0", .local), ("_law_lead", .local), ("_law_other", .cell)], isGenerator := false, isCoroutine := false }) (by decide +kernel)) (fun _ _ _ _ _ => (pg_name (i := 14) sc_right.nd rfl (.inl rfl))) (fun _ _ _ _ _ => pts_nil) (fun _ _ _ _ _ => (pe_op op_fdiv (pv 14) (pe_ix (ix_tupK K) (pv 2) pe_int (fun _ _ => rfl))))) (pa_cons (pe_lc (own := [("_law_k", 14)]) (g := (gName 14)) (by rfl) sc_right.nd (pi_listK K (pv 15)) (blkOk_by (own := [("_law_k", 14)]) (N := ["_law_signature_here", "_law_one", "_law_other", "_law_third", "_law_due", "_law_found", "_law_ends", "_law_model_here", "_law_end", "_law_pairs", "_law_first", "_law_met", "_law_kept", "_law_second", "_law_k", "_law_lead"]) (sc := { kind := .function, names := [(".0", .local), ("_law_lead", .local), ("_law_other", .cell)], isGenerator := false, isCoroutine := false }) (by decide +kernel)) (fun _ _ _ _ _ => (pg_name (i := 14) sc_right.nd rfl (.inl rfl))) (fun _ _ _ _ _ => pts_nil) (fun _ _ _ _ _ => (pe_op op_mod (pv 14) (pe_ix (ix_tupK K) (pv 2) pe_int (fun _ _ => rfl))))) pa_nil)))))
      (pss_cons (ps_set (i := 12) sc_right.nd rfl (.inl rfl) (pe_callB (call_reprW hr) (by rfl) T.z_repr (by decide +kernel) (pa_cons (pv 6) pa_nil)))
      (pss_cons (ps_asg (pv 6) (pg_tup (by rfl) (pgs_cons (pg_name (i := 10) sc_right.nd rfl (.inr rfl)) (pgs_cons (pg_name (i := 13) sc_right.nd rfl (.inl rfl)) pgs_nil))))
      (pss_cons (ps_expr (pe_bm PySem.F.plainAttrs_list PySem.F.slot_list_append PySem.F.type_list_append mt_append (pv 10) (pa_cons pe_int pa_nil)))
      (pss_cons (ps_if (pt_cmpR (op_neD hr.units) (pv 13) (pe_lc (own := [("_law_k", 14)]) (g := (gName 14)) (by rfl) sc_right.nd (pi_range1 (by rfl) T.z_range (pa_cons (pe_ix ix_tup (pv 4) pe_int (fun _ _ => rfl)) pa_nil)) (blkOk_by (own := [("_law_k", 14)]) (N := ["_law_signature_here", "_law_one", "_law_other", "_law_third", "_law_due", "_law_found", "_law_ends", "_law_model_here", "_law_end", "_law_pairs", "_law_first", "_law_met", "_law_kept", "_law_second", "_law_k", "_law_lead"]) (sc := (defScope s_right)) (by decide +kernel)) (fun _ _ _ _ _ => (pg_name (i := 14) sc_right.nd rfl (.inl rfl))) (fun _ _ _ _ _ => pts_nil) (fun _ _ _ _ _ => (pe_op op_mod (pv 14) (pe_ix (ix_tupK K) (pv 2) pe_int (fun _ _ => rfl))))) (nomark _))
        (pss_one (ps_ret pe_bl))
        pss_nil)
      (pss_cons (ps_expr (pe_bm PySem.F.plainAttrs_list PySem.F.slot_list_append PySem.F.type_list_append mt_append (pv 13) (pa_cons pe_int pa_nil)))
      (pss_one (ps_ret (pe_and (pe_cmpR (op_eqD hr.units) (pe_callB (cr_sortD hr) (by rfl) T.z_sorted (by decide +kernel) (pa_cons (pv 11) pa_nil)) (pe_callB (cr_sortD hr) (by rfl) T.z_sorted (by decide +kernel) (pa_cons (pv 9) pa_nil)) (nomark _)) (pe_one (pe_cmpR op_eq (pe_callB (call_reprW hr) (by rfl) T.z_repr (by decide +kernel) (pa_cons (pe_cl c_sides hr (by first | decide | omega) (by rfl) (pa_cons (pv 0) (pa_cons (pv 1) (pa_cons (pv 2) pa_nil)))) pa_nil)) (pv 12) (nomark _)))))))))))))))))))), ?_⟩
    replace q : ∀ r H', Ex H H' → r = .bl true → Q r H' := q
    replace hm : MA K H u v p := hm
    replace hw : Mdl K H w p2.2.1 p2.2.2 := hw
    replace hx : Mdl K H x t.2.1 t.2.2 := hx
    replace le : p.2.1 * p2.2.1 ≤ 6 := le
    replace es : p2.1 = p.1 := es
    replace et : p.1 = t.1 := et
    replace t2 : t.2.1 ≤ 2 := t2
    have okp : MOk (prd p p2) := prd_ok ok ok2 es le
    have n6 : p.2.1 ≤ 6 := ok.2.n6
    have m6 : p2.2.1 ≤ 6 := ok2.2.n6
    have m1 : 1 ≤ p2.2.1 := ok2.2.n1
    have ht : MA K H u x t := ⟨by rw [← et]; exact hm.1, hx⟩
    obtain ⟨N, hN⟩ : ∃ N, N = p.2.1 * p2.2.1 := ⟨_, rfl⟩
    have N6 : N ≤ 6 := by omega
    have gP : Gd 3 3178 (dM (p.2.1 * p2.2.1) (prd p p2).2.2) := mdl_gd okp
    -- what is due, what is found
    refine q_asgP (ep_call (p, p2) (ea_cons (ev_var rfl) (ea_cons (ev_var rfl) (ea_cons (ev_var rfl) ea_nil))) (fun H1 e1 => ⟨⟨⟨_, _, _, rfl, hm.ex e1, hw.ex e1⟩, ok, ok2, es⟩, le⟩)) fun due H1 e1 hdue => ?_
    replace hdue : Mdl K H1 due (p.2.1 * p2.2.1) (prd p p2).2.2 := hdue
    refine q_asgP (ep_call (p, p2) (ea_cons (ev_var rfl) (ea_cons (ev_var rfl) (ea_cons (ev_var rfl) ea_nil))) (fun H2 e2 => ⟨⟨⟨_, _, _, rfl, hm.ex (e1.trans e2), hw.ex (e1.trans e2)⟩, ok, ok2, es⟩, le⟩)) fun found H2 e2 hfound => ?_
    replace hfound : Mdl K H2 found (p.2.1 * p2.2.1) (prd p p2).2.2 := hfound
    have e02 := e1.trans e2
    refine do_set (ea_cons (ev_var rfl) (ea_cons (ev_var rfl) (ea_cons (ev_var rfl) ea_nil)) H2 (Ex.refl _) _ fun H3 e3 => ⟨(p, p2), ⟨⟨⟨_, _, _, rfl, hm.ex (e02.trans e3), hw.ex (e02.trans e3)⟩, ok, ok2, es⟩, le⟩, fun te l1 l2 H4 e4 hte nl1 nl2 l12 hl1 hl2 => ?_⟩)
    replace hl1 : H4 l1 = some (.lst ((dv p2.2.1 (List.range (p.2.1 * p2.2.1))).map vi)) := hl1
    replace hl2 : H4 l2 = some (.lst ((md p2.2.1 (List.range (p.2.1 * p2.2.1))).map vi)) := hl2
    have e04 := e02.trans (e3.trans e4)
    have n1H : H l1 = none := fresh_back (e02.trans e3) nl1
    have n2H : H l2 = none := fresh_back (e02.trans e3) nl2
    have hm4 := hm.ex e04
    have hw4 := hw.ex e04
    have ht4 := ht.ex e04
    have hdue4 := hdue.ex (e2.trans (e3.trans e4))
    have hfound4 := hfound.ex (e3.trans e4)
    obtain ⟨A, hA⟩ : ∃ A, A = dv p2.2.1 (List.range (p.2.1 * p2.2.1)) := ⟨_, rfl⟩
    obtain ⟨B, hB⟩ : ∃ B, B = md p2.2.1 (List.range (p.2.1 * p2.2.1)) := ⟨_, rfl⟩
    rw [← hA] at hl1
    rw [← hB] at hl2
    have lA : A.length = p.2.1 * p2.2.1 := by rw [hA]; unfold dv; rw [List.length_map, List.length_range]
    have lB : B.length = p.2.1 * p2.2.1 := by rw [hB]; unfold md; rw [List.length_map, List.length_range]
    have loA : ∀ y ∈ A, y < p.2.1 := by rw [hA]; exact dv_low m1 fun x hx => List.mem_range.mp hx
    have loB : ∀ y ∈ B, y < p2.2.1 := by rw [hB]; exact md_low m1
    have gE : Gd 2 (2 * (396 + 1)) (dP (A, B)) := gd_dP (by show A.length ≤ 36; omega) (by show B.length ≤ 36; omega) (fun y hy => by have := loA y hy; omega) (fun y hy => by have := loB y hy; omega)
    clear hm hw hx ht hdue hfound e1 e2 e3 e4 e02
    show tSeq _ _ _ [some u, some v, some w, some x, some due, some found, some (.ref te), none, none, none, none, none, none, none, none, none] H4
    refine q_when (b := false) (et_is (et_or (a := false) (b := false) (et_test (ev_op (ev_var rfl) (ev_var rfl) (rv_neD (K := K) (fun H' e' => (hfound4.ex e').dp) (fun H' e' => (hdue4.ex e').dp) gP (by decide)))) (fun _ => et_is (et_or (a := false) (b := false) (et_is (et_not (et_val (ev_isi (ev_var rfl) ev_c (.ty _) (fun _ e => tyx_tup (ex_t e hte)) kit_tt))) rfl) (fun _ => et_test (ev_op (ev_lenT (ev_var rfl) hte) ev_c (rv_ne' rfl rfl)))) rfl)) rfl) (fun hb => by cases hb) (fun _ H5 e5 => ?_)
    have dpE : ∀ {H'}, Ex H4 H' → Dp K H' (.ref te) (dP (A, B)) := fun {H'} e => .tup (ex_t e hte) (.cons (dp_ln (e _ _ hl1)) (.cons (dp_ln (e _ _ hl2)) .nil))
    have l40 : p.2.1 * p2.2.1 ≤ 40000 := by omega
    -- the sides, exactly
    refine q_when (b := false) (et_test (ev_neSame (K := K) (P := fun v H' => Dp K H' v (dP (A, B))) (R := fun v H' => Dp K H' v (dP (A, B))) (d := dP (A, B)) (ep_ev (ev_var rfl) fun H' e' => dpE (e5.trans e')) ((ep_two (A := A) (B := B) (el_to (el_rngD rfl (hdue4.ex e5) l40 (fun _ => rfl) (fun _ => rfl) (fun _ => rfl) (hw4.ex e5) (by omega) (by omega)) (by rw [hA])) (el_to (el_rngM rfl (hdue4.ex e5) l40 (fun _ => rfl) (fun _ => rfl) (fun _ => rfl) (hw4.ex e5) (by omega)) (by rw [hB]))).imp fun v H' _ z => z.dp) (fun _ _ _ e z => dpEx e z) (fun _ _ z => z) (fun _ _ z => z) gE (by decide))) (fun hb => by cases hb) (fun _ H6 e6 => ?_)
    have e46 := e5.trans e6
    -- both lead
    refine q_forLs (do_lst (do_cons (do_tup (do_cons (do_ev (v := v) (ev_var rfl) fun I1 f1 => do_cons (do_ev (v := .ref l1) (ev_op (ev_var rfl) ev_c (rv_ixT (K := K) (ex_t (e46.trans f1) hte) (atI_vi (k := 0) rfl))) fun I2 f2 => do_nil ⟨by show 2 ≤ sizeLine; decide, fun r1 nr1 => do_cons (do_tup (do_cons (do_ev (v := w) (ev_var rfl) fun I3 f3 => do_cons (do_ev (v := .ref l2) (ev_op (ev_var rfl) ev_c (rv_ixT (K := K) (ex_t (e46.trans (f1.trans (f2.trans ((Ex.new nr1).trans f3)))) hte) (atI_vi (k := 1) rfl))) fun I4 f4 => do_nil ⟨by show 2 ≤ sizeLine; decide, fun r2 nr2 => do_nil ⟨by show 2 ≤ sizeLine; decide, fun l nl => ⟨l, rfl, ⟨_, sq_of upd_same⟩, ?_⟩⟩⟩))))⟩))))))
    have x1 : Ex I2 (upd I2 r1 (.tup [v, .ref l1])) := Ex.new nr1
    have x2 : Ex I4 (upd I4 r2 (.tup [w, .ref l2])) := Ex.new nr2
    have x3 := Ex.new (o := .lst [V.ref r1, .ref r2]) nl
    have hr1 := x3 _ _ (x2 _ _ ((f3.trans f4) _ _ (upd_same (H := I2) (a := r1) (o := .tup [v, .ref l1]))))
    have hr2 := x3 _ _ (upd_same (H := I4) (a := r2) (o := .tup [w, .ref l2]))
    have hl := (upd_same (H := upd I4 r2 (.tup [w, .ref l2])) (a := l) (o := .lst [V.ref r1, .ref r2]))
    have e67 : Ex H4 (upd (upd I4 r2 (.tup [w, .ref l2])) l (.lst [V.ref r1, .ref r2])) := e46.trans (f1.trans (f2.trans (x1.trans (f3.trans (f4.trans (x2.trans x3))))))
    generalize (upd (upd I4 r2 (.tup [w, .ref l2])) l (.lst [V.ref r1, .ref r2])) = H7 at *
    clear x1 x2 x3 f1 f2 f3 f4
    have okF1 : fod (prd p p2) p A = none := by
      have a := side_one ok ok2 es le
      rw [← hA, fods_eq okp ok rfl] at a
      exact Option.isNone_iff_eq_none.mp a
    have okF2 : fod (prd p p2) p2 B = none := by
      have a := side_two ok ok2 es le
      rw [← hB, fods_eq okp ok2 es] at a
      exact Option.isNone_iff_eq_none.mp a
    have hF7 : MA K H7 u found (prd p p2) := ⟨(hm4.ex e67).1, hfound4.ex e67⟩
    refine qloops_list (K := K) (xs := [.ref r1, .ref r2]) (fun i σ H' => Ex H7 H' ∧ ∃ y7 y8, σ = [some u, some v, some w, some x, some due, some found, some (.ref te), y7, y8, none, none, none, none, none, none, none]) ⟨Ex.refl _, none, none, rfl⟩ (fun i σ' H' _ ⟨e, _⟩ => sq_of (e _ _ hl)) (fun i y σ' H8 hy ⟨e8, y7, y8, hσ⟩ => ?_) (fun σ' H8 ⟨e8, y7, y8, hσ⟩ => ?_)
    · subst hσ
      have two : y = .ref r1 ∨ y = .ref r2 := by
        have := List.mem_of_getElem? hy
        rcases List.mem_cons.mp this with z | z
        · exact .inl z
        · exact .inr (List.mem_singleton.mp z)
      rcases two with rfl | rfl
      · refine ⟨r1, _, rfl, st_of (e8 _ _ hr1), rfl, _, _, rfl, _, _, rfl, rfl, ?_⟩
        exact s_when (b := false) (et_fitsN (p := prd p p2) (p2 := p) (F := A) (ea_cons (ev_var rfl) (ea_cons (ev_var rfl) (ea_cons (ev_var rfl) (ea_cons (ev_var rfl) ea_nil)))) (hF7.ex e8) (hm4.ex (e67.trans e8)).2 okp ok rfl ((e67.trans e8) _ _ hl1) lA loA okF1) (fun hb => by cases hb) (fun _ H9 e9 => ⟨e8.trans e9, _, _, rfl⟩)
      · refine ⟨r2, _, rfl, st_of (e8 _ _ hr2), rfl, _, _, rfl, _, _, rfl, rfl, ?_⟩
        exact s_when (b := false) (et_fitsN (p := prd p p2) (p2 := p2) (F := B) (ea_cons (ev_var rfl) (ea_cons (ev_var rfl) (ea_cons (ev_var rfl) (ea_cons (ev_var rfl) ea_nil)))) (hF7.ex e8) (hw4.ex (e67.trans e8)) okp ok2 es ((e67.trans e8) _ _ hl2) lB loB okF2) (fun hb => by cases hb) (fun _ H9 e9 => ⟨e8.trans e9, _, _, rfl⟩)
    · subst hσ
      refine q_asgL (el_lst ea_nil (Nat.zero_le _)) fun D9 H9 nD9 e9 hD9 => ?_
      have e79 := e8.trans e9
      have e49 := e67.trans e79
      show tSeq _ _ _ [some u, some v, some w, some x, some due, some found, some (.ref te), y7, y8, some (.ref D9), none, none, none, none, none, none] H9
      have ht9 := ht4.ex e49
      have hm9 := hm4.ex e49
      have hw9 := hw4.ex e49
      have hF9 : MA K H9 u found (prd p p2) := hF7.ex e79
      clear hr1 hr2 hl okF1 okF2
      have es2 : p2.1 = t.1 := es.trans et
      -- the pairs of leads
      obtain ⟨L1, hL1⟩ : ∃ L1, L1 = (rows p.2.1 t.2.1).filter fun F => (fod t p F).isNone := ⟨_, rfl⟩
      obtain ⟨L2, hL2⟩ : ∃ L2, L2 = (rows p2.2.1 t.2.1).filter fun F => (fod t p2 F).isNone := ⟨_, rfl⟩
      obtain ⟨L3, hL3⟩ : ∃ L3, L3 = (rows (p.2.1 * p2.2.1) t.2.1).filter fun F => (fod t (prd p p2) F).isNone := ⟨_, rfl⟩
      have few : ∀ {n : Nat} {f : List Nat → Bool}, n ≤ 6 → ((rows n t.2.1).filter f).length ≤ 36 := fun {n f} hn => by
        have a := List.length_filter_le f (rows n t.2.1)
        have b := pow_36 hn t2
        rw [rows_len'] at a
        omega
      have f1 : L1.length ≤ 36 := by rw [hL1]; exact few n6
      have f2 : L2.length ≤ 36 := by rw [hL2]; exact few m6
      have f3 : L3.length ≤ 36 := by rw [hL3]; exact few le
      have rw1 : ∀ F ∈ L1, F.length = t.2.1 := fun F hF => by rw [hL1] at hF; exact (rows_of (List.mem_filter.mp hF).1).1
      have rw3 : ∀ F ∈ L3, F.length = t.2.1 := fun F hF => by rw [hL3] at hF; exact (rows_of (List.mem_filter.mp hF).1).1
      have pp : (L3.map (encP p2.2.1)).Perm (prs L1 L2) := by
        rw [hL1, hL2, hL3]
        exact pairs_perm m1 fun F hF => by
          have z := leads_prd ok3 ok ok2 es et le hF
          exact (fods_eq ok3 okp et F).symm.trans (z.trans (congr (congrArg and (fods_eq ok3 ok et _)) (fods_eq ok3 ok2 es2 _)))
      refine q_forLs (ea_cons (ev_var rfl) (ea_cons (ev_var rfl) (ea_cons (ev_var rfl) ea_nil)) H9 (Ex.refl _) _ fun Ha ea => ⟨t, p, u, x, v, rfl, ht9.ex ea, (hm9.ex ea).2, ok3, ok, et, fun k hk => lvl_few n6 (by omega) _, fun aL as Hb eb ll => ⟨aL, rfl, ⟨_, sq_of ll.at_⟩, ?_⟩⟩)
      rw [lvl_due ok3 ok et, ← hL1] at ll
      have e9b := ea.trans eb
      have ll4 := ll.low (e49.trans ea)
      have lL := ll.len
      refine qloops_list (K := K) (xs := as.map V.ref) (fun i σ H' => Ex Hb H' ∧ (∃ l9 ws, H' l9 = some (.lst ws) ∧ H4 l9 = none ∧ Paired (fun v b => PairV K H4 v b H') ws (prs (L1.take i) L2) ∧ ∃ y10, σ = [some u, some v, some w, some x, some due, some found, some (.ref te), y7, y8, some (.ref l9), y10, none, none, none, none, none]))
        ⟨Ex.refl _, D9, [], e9b _ _ hD9, fresh_back (e67.trans e8) nD9, .nil, none, rfl⟩ (fun i σ' H' _ ⟨e, _⟩ => sq_of (e _ _ ll.at_)) (fun i y σ' Hc hy ⟨ec, l9, ws, hl9, nl9, pws, y10, hσ⟩ => ?_) (fun σ' Hc ⟨ec, l9, ws, hl9, nl9, pws, y10, hσ⟩ => ?_)
      · subst hσ
        rw [List.getElem?_map] at hy
        cases hb : as[i]? with
        | none => rw [hb] at hy; cases hy
        | some b =>
        rw [hb] at hy
        cases Option.some.inj hy
        obtain ⟨F, hF, hbF, nb⟩ := paired_at ll4.each hb
        have il : i < L1.length := (List.getElem?_eq_some_iff.mp hF).1
        have e4c := (e49.trans e9b).trans ec
        have lw : ws.length ≤ 1296 := by
          rw [paired_len pws, prs_len, List.length_take]
          exact Nat.le_trans (Nat.mul_le_mul (Nat.min_le_right _ _) f2) (by omega)
        refine do_name ?_
        refine do_asg (do_op (do_ev (v := .ref l9) (ev_var rfl) fun I1 g1 => lc_src (ea_cons (ev_var rfl) (ea_cons (ev_var rfl) (ea_cons (ev_var rfl) ea_nil)) I1 (Ex.refl _) _ fun I2 g2 => ⟨t, p2, u, x, w, rfl, ht4.ex (e4c.trans (g1.trans g2)), hw4.ex (e4c.trans (g1.trans g2)), ok3, ok2, es2, fun k hk => lvl_few m6 (by omega) _, fun a2 as2 I3 g3 ll2 => ?_⟩)))
        rw [lvl_due ok3 ok2 es2, ← hL2] at ll2
        have ll24 := ll2.low (e4c.trans (g1.trans g2))
        have l2L := ll2.len
        refine do_elp (elp_lcL (K := K) ev_c (sq_of ll2.at_) (by rw [List.length_map]; omega) (fun _ => true) (fun v j H' => TV K H' v [.ref b, .ref (as2.getD j 0)]) (fun v j H H' e z => let ⟨a, q, s⟩ := z; ⟨a, q, e.et _ _ s⟩) (fun _ => rfl) (fun j y I4 g4 hy => ⟨et_yes, fun _ => ?_⟩)) fun r ws2 I5 nr g5 hr hws2 => ?_
        · rw [List.getElem?_map] at hy
          cases hb2 : as2[j]? with
          | none => rw [hb2] at hy; cases hy
          | some b2 =>
          rw [hb2] at hy
          cases Option.some.inj hy
          have eb : as2.getD j 0 = b2 := by rw [List.getD_eq_getElem?_getD, hb2]; rfl
          rw [eb]
          exact tv_tup (K := K) (xs := [.ref b, .ref b2]) (ea_cons (ev_var rfl) (ea_cons (ev_var rfl) ea_nil)) (by show 2 ≤ 100000; decide)
        · have g15 := g1.trans (g2.trans (g3.trans g5))
          have lw2 : ws2.length ≤ 36 := by
            have := paired_len hws2
            rw [range_all, List.length_range, List.length_map] at this
            omega
          refine ⟨l9, r, ws, ws2, rfl, rfl, g15 _ _ hl9, hr, sz_of (by omega), fun l nl => ?_⟩
          have gn := Ex.new (o := .lst (ws ++ ws2)) nl
          refine ⟨ec.trans (g15.trans gn), l, _, upd_same, fresh_back (e4c.trans g15) nl, ?_, _, rfl⟩
          rw [prs_snoc hF]
          refine paired_app (paired_imp (fun _ _ z => z.ex (g15.trans gn)) pws) ?_
          rw [range_all] at hws2
          have ll2n := (ll24.ex g5).ex gn
          have all : ∀ (m : Nat), m ≤ L2.length → Paired (fun v b => PairV K H4 v b (upd I5 l (.lst (ws ++ ws2)))) (ws2.take m) ((L2.take m).map fun s => (F, s)) := fun m => by
            induction m with
            | zero => exact fun _ => .nil
            | succ m ih =>
              intro hm
              have lws2 : ws2.length = L2.length := by
                have := paired_len hws2
                rw [List.length_range, List.length_map] at this
                omega
              have m1' : m < ws2.length := by omega
              have m2' : m < as2.length := by omega
              have m3' : m < L2.length := by omega
              obtain ⟨j, hj, tt, e1, s1⟩ := paired_at hws2 (List.getElem?_eq_getElem m1')
              rw [List.getElem?_range (by rw [List.length_map]; exact m2')] at hj
              cases Option.some.inj hj
              obtain ⟨F2, hF2, hbF2, nb2⟩ := paired_at ll2n.each (List.getElem?_eq_getElem m2')
              have eb : as2.getD m 0 = as2[m] := by rw [List.getD_eq_getElem?_getD, List.getElem?_eq_getElem m2']; rfl
              rw [eb] at s1
              rw [List.take_add_one, List.take_add_one, List.getElem?_eq_getElem m1', hF2, List.map_append]
              exact paired_snoc' (R := fun v b => PairV K H4 v b (upd I5 l (.lst (ws ++ ws2)))) (x := ws2[m]) (y := (F, F2)) ⟨tt, b, as2[m], e1, ex_t gn s1, (ec.trans (g15.trans gn)) _ _ hbF, hbF2, nb, nb2⟩ (ih (by omega))
          have fin := all L2.length (Nat.le_refl _)
          rw [List.take_length, List.take_of_length_le (by have := paired_len hws2; rw [List.length_range, List.length_map] at this; omega)] at fin
          exact fin
      · subst hσ
        rw [List.length_map, lL, List.take_length] at pws
        have e4c := (e49.trans e9b).trans ec
        clear ll ll4 lL rw1
        -- what the leads into the product come to
        refine do_set (lc_src (ea_cons (ev_var rfl) (ea_cons (ev_var rfl) (ea_cons (ev_var rfl) ea_nil)) Hc (Ex.refl _) _ fun I2 g2 => ⟨t, prd p p2, u, x, found, rfl, ht4.ex (e4c.trans g2), (hF9.ex (e9b.trans (ec.trans g2))).2, ok3, okp, et, fun k hk => lvl_few le (by omega) _, fun a3 as3 I3 g3 ll3 => ?_⟩))
        rw [lvl_due ok3 okp et] at ll3
        have ll3' : LLs I2 I3 a3 as3 L3 := by rw [hL3]; exact ll3
        clear ll3
        have l3L := ll3'.len
        have e4I := e4c.trans (g2.trans g3)
        refine do_lcCzL (K := K) (ds := L3.map fun F => dP (encP p2.2.1 F)) ev_c (sq_of ll3'.at_) (by rw [List.length_map, List.length_map]; omega) (by rw [List.length_map]; omega) (fun _ => rfl) (fun j y d I4 g4 hy hd Q4 q4 => ?_) (fun r ws3 I5 nr g5 hr hws3 => ?_)
        · rw [List.getElem?_map] at hy
          cases hb3 : as3[j]? with
          | none => rw [hb3] at hy; cases hy
          | some b3 =>
          rw [hb3] at hy
          cases Option.some.inj hy
          obtain ⟨F3, hF3, hbF3, nb3⟩ := paired_at ll3'.each hb3
          rw [List.getElem?_map, hF3] at hd
          cases Option.some.inj hd
          have lF := rw3 F3 (List.mem_of_getElem? hF3)
          have hw' := hw4.ex (e4I.trans g4)
          exact ep_two (A := dv p2.2.1 F3) (B := md p2.2.1 F3) (el_rowL (u := fun k => k / p2.2.1) (ev_var rfl) (g4 _ _ hbF3) (by omega) (fun _ => rfl) (fun k H1 e1 => ev_divM (ev_var rfl) (ev_size rfl (hw'.ex e1)) (by omega) (by omega))) (el_rowL (u := fun k => k % p2.2.1) (ev_var rfl) (g4 _ _ hbF3) (by omega) (fun _ => rfl) (fun k H1 e1 => ev_modM (ev_var rfl) (ev_size rfl (hw'.ex e1)) (by omega))) I4 (Ex.refl _) _ fun v' H' e7 z => q4 v' H' e7 z.cz
        have e4d := e4I.trans g5
        have hl9d := (g2.trans (g3.trans g5)) _ _ hl9
        have pwsd := paired_imp (fun _ _ z => PairV.ex (g2.trans (g3.trans g5)) z) pws
        have nr4 : H4 r = none := fresh_back e4I nr
        clear hl9 pws
        show tSeq _ _ _ [some u, some v, some w, some x, some due, some found, some (.ref te), y7, y8, some (.ref l9), y10, some (.ref r), none, none, none, none] I5
        -- kept, and spoilt
        refine q_asg (v := .str (dP (A, B)).shown) (ev_reprW (K := K) gs rfl (ep_ev (ev_var rfl) fun H' e' => dpE (e4d.trans e')) gE (by decide) (by decide)) fun Hd ed => ?_
        have e4e := e4d.trans ed
        refine ⟨.ref te, rfl, te, _, rfl, ex_t e4e hte, rfl, _, _, rfl, _, _, rfl, rfl, ?_⟩
        refine q_appP' (e4e _ _ hl1) (ev_var rfl) (ep_ev (P := fun v _ => v = .int 9) ev_c fun _ _ => rfl) (by rw [List.length_map]; omega) fun v9 He ee hv9 => ?_
        subst hv9
        have e4f := e4e.trans ee
        have l1f := e4f _ _ hl1
        have hm5 := hm4.ex e4f
        have hw5 := hw4.ex e4f
        have hd5 := hdue4.ex e4f
        have u1 : ET K He (upd He l1 (.lst (A.map vi ++ [.int 9]))) := ET.refl.upd l1f
        have o1 : OffL [l1, l2] He (upd He l1 (.lst (A.map vi ++ [.int 9]))) := fun b o hb ho => by
          rw [upd_ne (fun z => hb (by rw [z]; exact List.mem_cons_self ..))]
          exact ho
        have l2f : (upd He l1 (.lst (A.map vi ++ [.int 9]))) l2 = some (.lst (B.map vi)) := by
          rw [upd_ne (Ne.symm l12)]
          exact e4f _ _ hl2
        have l1g : (upd He l1 (.lst (A.map vi ++ [.int 9]))) l1 = some (.lst (A.map vi ++ [.int 9])) := upd_same
        have hm6 := hm5.et u1
        have hw6 := hw5.et u1
        have hd6 := hd5.et u1
        have x6 := (e04.trans e4f).mut (o := .lst (A.map vi ++ [.int 9])) n1H
        generalize (upd He l1 (.lst (A.map vi ++ [.int 9]))) = Hf at *
        show tSeq _ _ _ [some u, some v, some w, some x, some due, some found, some (.ref te), y7, y8, some (.ref l9), some (.ref l1), some (.ref r), some (.str (dP (A, B)).shown), some (.ref l2), none, none] Hf
        have gB : Gd 1 396 (dL B) := gd_dL (fun y hy => by have := loB y hy; omega) (by omega)
        refine q_when (b := false) (et_test (ev_neSame (K := K) (P := fun v H' => Dp K H' v (dL B)) (R := fun v H' => Dp K H' v (dL B)) (d := dL B) (ep_ev (ev_var rfl) fun H' e' => dp_ln (e' _ _ l2f)) (fun H1 e1 Q1 q1 => el_rngM rfl hd6 l40 (fun _ => rfl) (fun _ => rfl) (fun _ => rfl) hw6 (by omega) H1 e1 _ fun lx H2 nx e2 hx2 => q1 _ H2 e2 (by rw [← hB] at hx2; exact dp_ln hx2)) (fun _ _ _ e z => dpEx e z) (fun _ _ z => z) (fun _ _ z => z) gB (by decide))) (fun hb => by cases hb) (fun _ Hg eg => ?_)
        refine q_appP' (eg _ _ l2f) (ev_var rfl) (ep_ev (P := fun v _ => v = .int 9) ev_c fun _ _ => rfl) (by rw [List.length_map]; omega) fun v9 Hh eh hv9 => ?_
        subst hv9
        have e2f := eg.trans eh
        have l2h := e2f _ _ l2f
        have u2 : ET K Hh (upd Hh l2 (.lst (B.map vi ++ [.int 9]))) := ET.refl.upd l2h
        have o2 : OffL [l1, l2] Hh (upd Hh l2 (.lst (B.map vi ++ [.int 9]))) := fun b o hb ho => by
          rw [upd_ne (fun z => hb (by rw [z]; exact List.mem_cons_of_mem _ (List.mem_singleton_self _)))]
          exact ho
        have hm7 := (hm6.ex e2f).et u2
        have hw7 := (hw6.ex e2f).et u2
        have x7 := (x6.trans e2f).mut (o := .lst (B.map vi ++ [.int 9])) n2H
        have old : ∀ b ∈ [l1, l2], H4 b ≠ none := fun b hb => by
          rcases List.mem_cons.mp hb with z | z
          · rw [z, hl1]; intro z; cases z
          · rw [List.mem_singleton.mp z, hl2]; intro z; cases z
        have now1 : ∀ b ∈ [l1, l2], ∃ xs, He b = some (.lst xs) := fun b hb => by
          rcases List.mem_cons.mp hb with z | z
          · exact ⟨_, by rw [z]; exact l1f⟩
          · exact ⟨_, by rw [List.mem_singleton.mp z]; exact e4f _ _ hl2⟩
        have now2 : ∀ b ∈ [l1, l2], ∃ xs, Hh b = some (.lst xs) := fun b hb => by
          rcases List.mem_cons.mp hb with z | z
          · exact ⟨_, by rw [z]; exact e2f _ _ l1g⟩
          · exact ⟨_, by rw [List.mem_singleton.mp z]; exact l2h⟩
        have edE := ed.trans ee
        have keep : ∀ {vs : List V} {L : List (List Nat × List Nat)}, Paired (fun v b => PairV K H4 v b I5) vs L → Paired (fun v b => PairV K H4 v b (upd Hh l2 (.lst (B.map vi ++ [.int 9])))) vs L := fun {vs L} z => paired_imp (fun _ _ z => (((z.ex edE).off o1 now1 old).ex e2f).off o2 now2 old) z
        have nin : ∀ {b : Addr}, H4 b = none → b ∉ [l1, l2] := fun {b} hb z => old b z hb
        have hr7 := o2 _ _ (nin nr4) (e2f _ _ (o1 _ _ (nin nr4) (edE _ _ hr)))
        have hl97 := o2 _ _ (nin nl9) (e2f _ _ (o1 _ _ (nin nl9) (edE _ _ hl9d)))
        have pb := keep pwsd
        have pa : DpAll K (upd Hh l2 (.lst (B.map vi ++ [.int 9]))) ws3 (L3.map fun F => dP (encP p2.2.1 F)) := hws3 _ fun b o cond hb => by
          have nb : b ∉ [l1, l2] := by
            rcases cond with c | c
            · exact fun zz => by
                rcases List.mem_cons.mp zz with z | z
                · rw [z, e4I _ _ hl1] at c; cases c
                · rw [List.mem_singleton.mp z, e4I _ _ hl2] at c; cases c
            · exact fun zz => by
                rcases List.mem_cons.mp zz with z | z
                · rw [z, e4d _ _ hl1] at hb; exact c _ (Option.some.inj hb).symm
                · rw [List.mem_singleton.mp z, e4d _ _ hl2] at hb; exact c _ (Option.some.inj hb).symm
          exact o2 _ _ nb (e2f _ _ (o1 _ _ nb (edE _ _ hb)))
        generalize (upd Hh l2 (.lst (B.map vi ++ [.int 9]))) = Hk at *
        have pa' : Paired (fun v b => Dp K Hk v (dP b)) ws3 (L3.map (encP p2.2.1)) := dps_paired (by rw [List.map_map]; exact pa)
        have pb' : Paired (fun v b => Dp K Hk v (dP b)) ws (prs L1 L2) := paired_imp (fun _ _ z => PairV.dp z) pb
        have hp7 : PrOk K (p, p2) [u, v, w] Hk := ⟨⟨⟨_, _, _, rfl, hm7, hw7⟩, ok, ok2, es⟩, le⟩
        rw [hL1, hL2] at pp pb'
        have gE' : Gd 2 (2 * (396 + 1)) (dP (dv p2.2.1 (List.range (p.2.1 * p2.2.1)), md p2.2.1 (List.range (p.2.1 * p2.2.1)))) := by rw [← hA, ← hB]; exact gE
        refine s_ret (v := .bl true) (ev_andV (a := true) (b := true) (ev_sortSame (ev_var rfl) (ev_var rfl) hr7 hl97 pa' pb' pp (List.Perm.refl _) n6 m6 t2) (fun _ => ev_is (ev_op (ev_reprW (K := K) gs rfl (ep_sides rfl rfl rfl hp7) gE' (by decide) (by decide)) (ev_var rfl) (rv_eq rfl)) (by rw [← hA, ← hB, decide_eq_true rfl]))) fun Hz ez => q _ Hz (x7.trans ez) rfl
end
end K73
end
section
namespace K73
open PySem PySem.Spec PyProof.Rows L2 Evl RZ Dw M20 M25 CL LD
section
variable {P : Program} {w : World} {K : PySem.W.Frag} {mg : Str → Option Value} {base : Heap} {σ : L2.St} {H H0 : Hp} {ta te tl : TE} {C G : Addr}
theorem elp_lcR2 {ta : TA} {lo n : Nat} {tt : TT} {j : Nat} {vs : List Nat} (h : EvA ta σ H [vi lo, vi (lo + n)]) (hn : lo + n ≤ 40000) (f : Nat → Bool) (B : V → Nat → Hp → Prop) (hB : StbB B) (hwp : ∀ x, wipe ((wipe σ vs).set j (some x)) vs = wipe σ vs)
    (hs : ∀ i H1, i < n → Ex H H1 → EvT tt ((wipe σ vs).set j (some (vi (lo + i)))) H1 (f i) ∧ (f i = true → EvP te ((wipe σ vs).set j (some (vi (lo + i)))) H1 (fun v H' => B v i H'))) :
    EvLP (tLc (iRng2 ta) (gName j) tt te vs) σ H (fun ws H' => Paired (fun v i => B v i H') ws ((List.range n).filter f)) :=
  elp_lc (walk_range (lo := (lo : Int)) (n := n)) (fun H0 e0 R r => h H0 e0 _ fun H1 e1 => ⟨(lo : Int), ((lo + n : Nat) : Int), rfl, ⟨by omega, by omega, by omega, by omega⟩, by
    have en : (((lo + n : Nat) : Int) - (lo : Int)).toNat = n := by omega
    rw [en]
    exact r H1 e1⟩) (fun _ _ => trivial) (by omega) f B hB fun i x H1 H2 hi e y => by
    obtain ⟨rfl, hxi⟩ := y
    have e0 : x = vi (lo + i) := hxi.trans (by show V.int _ = V.int _; congr 1)
    subst e0
    exact ⟨Ex.refl _, fun Φ k => k _ (hwp _) (hs i _ hi e).1 (hs i _ hi e).2⟩
theorem et_truB (h : EvP te σ H (fun v _ => v = .bl true)) : EvT (fun σ H Q => te σ H fun x H' => ∃ k, TruV K x H' k ∧ Q k H') σ H true := fun H1 e Q q => h H1 e _ fun v H2 e2 hv => ⟨true, by rw [hv]; rfl, q H2 e2⟩
theorem q_unl {t : TGs} {tz : TS} {D : Ends} {n : Nat} (h : te σ H fun x H1 => gUnl K n t x σ H1 fun σ2 H2 => tz D σ2 H2) : tSeq (tAsg te (gUnl K n t)) tz D σ H := h
/-- a pair of sizes by its number -/
def PrN (K : PySem.W.Frag) (H : Hp) (v : V) (j : Nat) : Prop := TV K H v [vi (j / 6 + 1), vi (j % 6 + 1)]
theorem PrN.et {H H' : Hp} {v : V} {j : Nat} (e : ET K H H') (h : PrN K H v j) : PrN K H' v j := let ⟨a, q, s⟩ := h; ⟨a, q, e _ _ s⟩
/-- two models, drawn -/
theorem do_models {p c xa : Addr} {t s m : Nat} {sv : V} {sg : List (Str × Nat)} {Q : VK} (h6 : Ev tl σ H (.ref xa)) (hx : SqT K H xa ([s, m].map vi)) (hwp : ∀ x, wipe ((wipe σ [3]).set 3 (some x)) [3] = wipe σ [3]) (g1 : ∀ x, ((wipe σ [3]).set 3 x)[1]? = some (some (.ref p))) (g5 : ∀ x, ((wipe σ [3]).set 3 x)[5]? = some (some sv)) (g3 : ∀ x, ((wipe σ [3]).set 3 (some x))[3]? = some (some x))
    (pu : Pur H p c t) (lt : t ≤ 60000) (hG : Sig K H sv sg) (so : SigOk sg) (low : ∀ n ∈ [s, m], 1 ≤ n ∧ n ≤ 6)
    (k : ∀ l v1 ts1 v2 ts2 t' H', Off H H' p c → Pur H' p c t' → t' ≤ t + 800 → H' l = some (.lst [v1, v2]) → Mdl K H' v1 s ts1 → MdlOk sg s ts1 → Mdl K H' v2 m ts2 → MdlOk sg m ts2 → Q (.ref l) H') :
    tLc (iTup K tl) (gName 3) tYes (tCall (sp_model K) [] E0 (tCons (tVar 1) (tCons (tVar 5) (tCons (tVar 3) tNil)))) [3] σ H Q := by
  refine do_lcIt walk_tup (fun R r => w_tup (K := K) h6 hx H (Ex.refl _) R r) (fun Dl i H' => H Dl = none ∧ Off H H' p c ∧ (∃ t', Pur H' p c t' ∧ t' ≤ t + 400 * i) ∧ ∃ (ws : List V) (qs : List (Nat × List (List Nat))), H' Dl = some (.lst ws) ∧ Paired (fun v q => Mdl K H' v q.1 q.2 ∧ MdlOk sg q.1 q.2) ws qs ∧ qs.map (·.1) = [s, m].take i)
    (fun Dl H2 e2 nD => ⟨fresh_back e2 nD, .of_ex (e2.trans (Ex.new nD)), ⟨t, pu.ex (e2.trans (Ex.new nD)), by omega⟩, [], [], upd_same, .nil, rfl⟩) (fun Dl i H' _ ⟨_, o, _⟩ => o.et pu _ _ hx) (fun Dl i x H2 H3 hi ⟨nD, o2, ⟨t', pu2, lt'⟩, ws, qs, hws, pws, lqs⟩ y => ?_) (fun Dl H2 ⟨nD, o2, ⟨t', pu2, lt'⟩, ws, qs, hws, pws, lqs⟩ => ?_)
  · obtain ⟨rfl, hxi⟩ := y
    rw [List.getElem?_map] at hxi
    cases hn : [s, m][i]? with
    | none => rw [hn] at hxi; cases hxi
    | some n =>
    rw [hn] at hxi
    cases Option.some.inj hxi
    obtain ⟨n1, n6⟩ := low n (List.mem_of_getElem? hn)
    have i2 : i < 2 := hi
    obtain ⟨Dp1, Dc1⟩ := pu.fresh nD
    refine ⟨hwp _, iteT ?_⟩
    refine ea_cons (ev_var (g1 _)) (ea_cons (ev_var (g5 _)) (ea_cons (ev_var (g3 _)) ea_nil)) H3 (Ex.refl H3) _ fun H4 e4 => ⟨p, c, t', n, sv, sg, rfl, pu2.ex e4, by omega, n1, n6, (hG.et (o2.et pu)).ex e4, so, fun v ts t2 H5 o5 pu5 l5 hM mok => ?_⟩
    have o35 : Off H3 H5 p c := (Off.of_ex e4).trans o5
    have hws5 : H5 Dl = some (.lst ws) := o35 _ _ Dp1 Dc1 hws
    have lw : ws.length = i := by
      rw [paired_len pws, ← List.length_map (f := (·.1)), lqs, List.length_take]
      show min i 2 = i
      omega
    have et : ET K H5 (upd H5 Dl (.lst (ws ++ [v]))) := ET.refl.upd hws5
    refine ⟨ws, hws5, sz_lt (by omega), nD, (o2.trans o35).upd nD, ⟨t2, pu5.upd Dp1 Dc1, by omega⟩, ws ++ [v], qs ++ [(n, ts)], upd_same, paired_snoc ⟨hM.et et, mok⟩ (paired_imp (fun _ _ z => ⟨z.1.et ((o35.et pu2).trans et), z.2⟩) pws), ?_⟩
    rw [List.map_append, lqs, List.take_add_one, hn]
    rfl
  · have eq : qs.map (·.1) = [s, m] := lqs
    match qs, eq, pws with
    | [(s', ts1), (m', ts2)], eq, pws =>
      injection eq with h1 h2
      injection h2 with h2 h3
      cases pws with
      | @cons v1 _ _ _ a1 r1 =>
      cases r1 with
      | @cons v2 _ _ _ a2 r2 =>
      cases r2
      obtain rfl : s' = s := h1
      obtain rfl : m' = m := h2
      exact k Dl v1 ts1 v2 ts2 t' H2 o2 pu2 (by have : t' ≤ t + 400 * 2 := lt'; omega) hws a1.1 a1.2 a2.1 a2.2
/-- one of the pairs that fit -/
theorem do_pickP {p c l : Addr} {t : Nat} {ws : List V} {tt : TT} {Q : VK} (f : Nat → Bool) (h1 : σ[1]? = some (some (.ref p))) (h2 : σ[2]? = some (some (.ref l))) (hl : H l = some (.lst ws)) (pws : Paired (PrN K H) ws (List.range 36)) (pu : Pur H p c t) (lt : t ≤ 80000) (hwp : ∀ x, wipe ((wipe σ [12]).set 12 (some x)) [12] = wipe σ [12]) (g12 : ∀ x, ((wipe σ [12]).set 12 (some x))[12]? = some (some x))
    (test : ∀ j x H1, PrN K H1 x j → j < 36 → EvT tt ((wipe σ [12]).set 12 (some x)) H1 (f j)) (few : 1 ≤ ((List.range 36).filter f).length)
    (k : ∀ x j H', j < 36 → f j = true → PrN K H' x j → Off H H' p c → Pur H' p c (t + 1) → Q x H') : tCall (sp_pick K) [] E0 (tCons (tVar 1) (tCons (tLc (iList K (tVar 2)) (gName 12) tt (tVar 12) [12]) tNil)) σ H Q := by
  have lw : ws.length = 36 := by rw [paired_len pws, List.length_range]
  have at_ : ∀ {j : Nat} {x : V}, ws[j]? = some x → j < 36 ∧ PrN K H x j := fun {j x} hx => by
    obtain ⟨i, hi, z⟩ := paired_at pws hx
    have jl : j < 36 := by rw [← lw]; exact (List.getElem?_eq_some_iff.mp hx).1
    rw [List.getElem?_range jl] at hi
    cases Option.some.inj hi
    exact ⟨jl, z⟩
  refine do_cons (do_ev (ev_var h1) fun I1 f1 => do_cons (do_elp (elp_lcL (K := K) (ev_var h2) (sq_of (f1 _ _ hl)) (by omega) f (fun v j H' => PrN K H' v j) (fun v j H H' e z => PrN.et e.et z) hwp (fun j x I2 f2 hx => ⟨test j x I2 (PrN.et (Dw.Ex.et (f1.trans f2)) (at_ hx).2) (at_ hx).1, fun _ => ep_ev (ev_var (g12 _)) fun H' e' => PrN.et (Dw.Ex.et ((f1.trans f2).trans e')) (at_ hx).2⟩)) fun r ws2 I2 nr f2 hr hws2 => ?_))
  have f12 := f1.trans f2
  obtain ⟨rp, rc⟩ := pu.fresh (fresh_back f1 nr)
  rw [lw] at hws2
  have l2 := paired_len hws2
  have l3 := List.length_filter_le f (List.range 36)
  rw [List.length_range] at l3
  refine do_nil ⟨p, c, t, pu.ex f12, by omega, .inr ⟨r, ws2, rfl, .inl (sq_of hr), rp, rc, by omega, by omega, fun n x H5 hx o5 pu5 => ?_⟩⟩
  obtain ⟨j, hj, zj⟩ := paired_at hws2 hx
  obtain ⟨mj, fj⟩ := List.mem_filter.mp (List.mem_of_getElem? hj)
  exact k x j H5 (List.mem_range.mp mj) fj (PrN.et (o5.et (pu.ex f12)) zj) ((Off.of_ex f12).trans o5) pu5
theorem et_prod {x : V} {j : Nat} {H1 : Hp} {i : Nat} (h : σ[i]? = some (some x)) (hp : PrN K H1 x j) (hj : j < 36) : Ev (tOp (rI CMul fun i j => .int (i * j)) (tOp (rIxT K) (tVar i) (tC (.int 0))) (tOp (rIxT K) (tVar i) (tC (.int 1)))) σ H1 (vi ((j / 6 + 1) * (j % 6 + 1))) := by
  obtain ⟨b, rfl, sb⟩ := hp
  exact ev_mulM (ev_op (ev_var h) ev_c (rv_ixT (K := K) sb (atI_vi (k := 0) rfl))) (ev_op (ev_var h) ev_c (rv_ixT (K := K) sb (atI_vi (k := 1) rfl))) (by omega)
def Turn (K : PySem.W.Frag) (a p c l : Addr) (i : Nat) (σ : L2.St) (H : Hp) : Prop := (∃ t, Pur H p c t ∧ t ≤ 3000 * i) ∧ (∃ ws, H l = some (.lst ws) ∧ Paired (PrN K H) ws (List.range 36)) ∧ ∃ y3 y4 y5 y6 y7 y8 y9 y10, σ = [some (.ref a), some (.ref p), some (.ref l), y3, y4, y5, y6, y7, y8, y9, y10, none, none]
theorem law_ok (T : Txt mg) (c_purse : Cl P w K mg base 1 "_law_purse" (sp_purse K)) (c_draw : Cl P w K mg base 1 "_law_draw" sp_draw) (c_pick : Cl P w K mg base 2 "_law_pick" (sp_pick K)) (c_signature : Cl P w K mg base 3 "_law_signature" (sp_signature K)) (c_model : Cl P w K mg base 3 "_law_model" (sp_model K))
    (c_right : ClG P w K mg base 11 "_law_right" (sp_right K)) (c_refused : Cl P w K mg base 11 "_law_refused" (sp_refused K))
    (room : Room 12 callerA) (s : Shared) (H : Hp) (fa : Addr) (cdv : Value) (a : Addr) (ns : List Int) (len : ns.length ≤ 63) (seq : SqL K H a (ns.map V.int)) :
    ∃ t, PSs (cxOf CX0 P w K mg base ["_law_script", "_law_purse_here", "_law_every", "_law_size", "_law_time", "_law_signature_here", "_law_sizes", "_law_one", "_law_other", "_law_third", "_law_great", "_law_many", "_law_pair"] "law" (defScope s_law) fa cdv callerA [] s H E0).nox (defBody s_law) t ∧ t { nx := fun _ _ => False, rt := fun v _ => v = .bl true } (start ["_law_script", "_law_purse_here", "_law_every", "_law_size", "_law_time", "_law_signature_here", "_law_sizes", "_law_one", "_law_other", "_law_third", "_law_great", "_law_many", "_law_pair"] [.ref a]) H := by
  have hr : Room 11 (callerA.deeper (envOfC "law" (defScope s_law) s.heap.objs.size fa cdv)) := room.deeper _
  refine ⟨_, (pss_cons (ps_set (i := 1) sc_law.nd rfl (.inr rfl) (pe_cl c_purse hr (by first | decide | omega) (by rfl) (pa_cons (pv 0) pa_nil)))
      (pss_cons (ps_set (i := 2) sc_law.nd rfl (.inl rfl) (pe_lst pa_nil))
      (pss_cons (ps_for PassesOwn.never (by rfl) (pi_range2 (by rfl) T.z_range (pa_cons pe_int (pa_cons pe_int pa_nil))) (pg_name (i := 3) sc_law.nd rfl (.inr rfl))
        (pss_one (ps_set (i := 2) sc_law.nd rfl (.inl rfl) (pe_op op_cat (pv 2) (pe_lc (own := [("_law_many", 11)]) (g := (gName 11)) (by rfl) sc_law.nd (pi_range2 (by rfl) T.z_range (pa_cons pe_int (pa_cons pe_int pa_nil))) (blkOk_by (own := [("_law_many", 11)]) (N := ["_law_script", "_law_purse_here", "_law_every", "_law_size", "_law_time", "_law_signature_here", "_law_sizes", "_law_one", "_law_other", "_law_third", "_law_great", "_law_many", "_law_pair"]) (sc := (defScope s_law)) (by decide +kernel)) (fun _ _ _ _ _ => (pg_name (i := 11) sc_law.nd rfl (.inl rfl))) (fun _ _ _ _ _ => pts_nil) (fun _ _ _ _ _ => (pe_tup (pa_cons (pv 3) (pa_cons (pv 11) pa_nil)))))))))
      (pss_cons (ps_for PassesOwn.never (by rfl) (pi_range1 (by rfl) T.z_range (pa_cons pe_int pa_nil)) (pg_name (i := 4) sc_law.nd rfl (.inl rfl))
        (pss_cons (ps_set (i := 5) sc_law.nd rfl (.inr rfl) (pe_cl c_signature hr (by first | decide | omega) (by rfl) (pa_cons (pv 1) pa_nil)))
        (pss_cons (ps_set (i := 6) sc_law.nd rfl (.inl rfl) (pe_cl c_pick hr (by first | decide | omega) (by rfl) (pa_cons (pv 1) (pa_cons (pe_lc (own := [("_law_pair", 12)]) (g := (gName 12)) (by rfl) sc_law.nd (pi_list (pv 2)) (blkOk_by (own := [("_law_pair", 12)]) (N := ["_law_script", "_law_purse_here", "_law_every", "_law_size", "_law_time", "_law_signature_here", "_law_sizes", "_law_one", "_law_other", "_law_third", "_law_great", "_law_many", "_law_pair"]) (sc := (defScope s_law)) (by decide +kernel)) (fun _ _ _ _ _ => (pg_name (i := 12) sc_law.nd rfl (.inl rfl))) (fun _ _ _ _ _ => (pts_one (pt_cmpR op_lt (pe_op op_mul (pe_ix (ix_tupK K) (pv 12) pe_int (fun _ _ => rfl)) (pe_ix (ix_tupK K) (pv 12) pe_int (fun _ _ => rfl))) pe_int (nomark _)))) (fun _ _ _ _ _ => (pv 12))) pa_nil))))
        (pss_cons (ps_asg (pe_lc (own := [("_law_size", 3)]) (g := (gName 3)) (by rfl) sc_law.nd (pi_tup (pv 6)) (blkOk_by (own := [("_law_size", 3)]) (N := ["_law_script", "_law_purse_here", "_law_every", "_law_size", "_law_time", "_law_signature_here", "_law_sizes", "_law_one", "_law_other", "_law_third", "_law_great", "_law_many", "_law_pair"]) (sc := (defScope s_law)) (by decide +kernel)) (fun _ _ _ _ _ => (pg_name (i := 3) sc_law.nd rfl (.inl rfl))) (fun _ _ _ _ _ => pts_nil) (fun _ _ _ _ _ => (pe_cl c_model hr (by first | decide | omega) (by rfl) (pa_cons (pv 1) (pa_cons (pv 5) (pa_cons (pv 3) pa_nil)))))) (pg_unl (by rfl) (pgs_cons (pg_name (i := 7) sc_law.nd rfl (.inl rfl)) (pgs_cons (pg_name (i := 8) sc_law.nd rfl (.inl rfl)) pgs_nil))))
        (pss_cons (ps_set (i := 9) sc_law.nd rfl (.inl rfl) (pe_cl c_model hr (by first | decide | omega) (by rfl) (pa_cons (pv 1) (pa_cons (pv 5) (pa_cons (pe_op op_add pe_int (pe_cl c_draw hr (by first | decide | omega) (by rfl) (pa_cons (pv 1) (pa_cons pe_int pa_nil)))) pa_nil)))))
        (pss_cons (ps_if (pt_not (pt_truth (pe_clG c_right rfl hr (by first | decide | omega) (by rfl) (pa_cons (pv 5) (pa_cons (pv 7) (pa_cons (pv 8) (pa_cons (pv 9) pa_nil))))) (by intro _; rfl)))
          (pss_one (ps_ret pe_bl))
          pss_nil)
        (pss_cons (ps_set (i := 10) sc_law.nd rfl (.inl rfl) (pe_cl c_pick hr (by first | decide | omega) (by rfl) (pa_cons (pv 1) (pa_cons (pe_lc (own := [("_law_pair", 12)]) (g := (gName 12)) (by rfl) sc_law.nd (pi_list (pv 2)) (blkOk_by (own := [("_law_pair", 12)]) (N := ["_law_script", "_law_purse_here", "_law_every", "_law_size", "_law_time", "_law_signature_here", "_law_sizes", "_law_one", "_law_other", "_law_third", "_law_great", "_law_many", "_law_pair"]) (sc := (defScope s_law)) (by decide +kernel)) (fun _ _ _ _ _ => (pg_name (i := 12) sc_law.nd rfl (.inl rfl))) (fun _ _ _ _ _ => (pts_one (pt_cmpR op_gt (pe_op op_mul (pe_ix (ix_tupK K) (pv 12) pe_int (fun _ _ => rfl)) (pe_ix (ix_tupK K) (pv 12) pe_int (fun _ _ => rfl))) pe_int (nomark _)))) (fun _ _ _ _ _ => (pv 12))) pa_nil))))
        (pss_cons (ps_asg (pe_lc (own := [("_law_size", 3)]) (g := (gName 3)) (by rfl) sc_law.nd (pi_tup (pv 10)) (blkOk_by (own := [("_law_size", 3)]) (N := ["_law_script", "_law_purse_here", "_law_every", "_law_size", "_law_time", "_law_signature_here", "_law_sizes", "_law_one", "_law_other", "_law_third", "_law_great", "_law_many", "_law_pair"]) (sc := (defScope s_law)) (by decide +kernel)) (fun _ _ _ _ _ => (pg_name (i := 3) sc_law.nd rfl (.inl rfl))) (fun _ _ _ _ _ => pts_nil) (fun _ _ _ _ _ => (pe_cl c_model hr (by first | decide | omega) (by rfl) (pa_cons (pv 1) (pa_cons (pv 5) (pa_cons (pv 3) pa_nil)))))) (pg_unl (by rfl) (pgs_cons (pg_name (i := 7) sc_law.nd rfl (.inl rfl)) (pgs_cons (pg_name (i := 8) sc_law.nd rfl (.inl rfl)) pgs_nil))))
        (pss_one (ps_if (PW.pt (pw_or (pt_cmpR op_ne (pe_gi (by rfl) T.c_MOST_SIZE) pe_int (nomark _)) (pw_or (pt_not (pt_truth (pe_cl c_refused hr (by first | decide | omega) (by rfl) (pa_cons pe_int (pa_cons (pv 5) (pa_cons (pv 7) (pa_cons (pv 8) pa_nil))))) (by intro _; rfl))) (pw_or1 (pt_not (pt_truth (pe_cl c_refused hr (by first | decide | omega) (by rfl) (pa_cons pe_int (pa_cons (pv 5) (pa_cons (pv 7) (pa_cons (pv 8) pa_nil))))) (by intro _; rfl)))))))
          (pss_one (ps_ret pe_bl))
          pss_nil))))))))))
      (pss_one (ps_ret pe_bl)))))), ?_⟩
  refine do_set (ea_cons (ev_var rfl) ea_nil H (Ex.refl H) _ fun H0 e0 => ⟨a, ns, rfl, ex_l e0 seq, len, fun p c H1 e1 np nc pu => ?_⟩)
  -- every pair of sizes
  refine q_asgL (el_lst ea_nil (Nat.zero_le _)) fun D2 H2 nD2 e2 hD2 => ?_
  show tSeq _ _ _ [some (.ref a), some (.ref p), some (.ref D2), none, none, none, none, none, none, none, none, none, none] H2
  refine q_forR2 (lo := ((1 : Nat) : Int)) (n := ((7 : Nat) : Int)) (ea_cons ev_c (ea_cons ev_c ea_nil)) (by decide) (fun i σ H' => Ex H1 H' ∧ (∃ l ws y3, H' l = some (.lst ws) ∧ H1 l = none ∧ Paired (PrN K H') ws (List.range (6 * i)) ∧ σ = [some (.ref a), some (.ref p), some (.ref l), y3, none, none, none, none, none, none, none, none, none]))
    (fun H3 e3 => ⟨e2.trans e3, D2, [], none, e3 _ _ hD2, nD2, .nil, rfl⟩) (fun i σ' H3 hi ⟨e3, l, ws, y3, hl, nl, pws, hσ⟩ => ?_) (fun σ' H3 ⟨e3, l, ws, y3, hl, nl, pws, hσ⟩ => ?_)
  · subst hσ
    have i6 : i < 6 := by omega
    have lw : ws.length = 6 * i := by rw [paired_len pws, List.length_range]
    have ev : V.int (((1 : Nat) : Int) + (i : Int)) = vi (i + 1) := by
      show V.int _ = V.int (((i + 1 : Nat)) : Int)
      congr 1
      omega
    rw [ev]
    show tAsg _ _ _ [some (.ref a), some (.ref p), some (.ref l), some (vi (i + 1)), none, none, none, none, none, none, none, none, none] H3
    refine do_asg (do_op (do_ev (v := .ref l) (ev_var rfl) fun I1 g1 => do_elp (elp_lcR2 (lo := 1) (n := 6) (ea_cons ev_c (ea_cons ev_c ea_nil)) (by decide) (fun _ => true) (fun v j H' => TV K H' v [vi (i + 1), vi (1 + j)]) (fun v j H H' e z => let ⟨a, q, s⟩ := z; ⟨a, q, e.et _ _ s⟩) (fun _ => rfl) (fun j I2 hj g2 => ⟨et_yes, fun _ => tv_tup (K := K) (ea_cons (ev_var rfl) (ea_cons (ev_var rfl) ea_nil)) (by show 2 ≤ 100000; decide)⟩)) fun r ws2 I3 nr g3 hr2 hws2 => ?_))
    rw [range_all] at hws2
    have lw2 : ws2.length = 6 := by rw [paired_len hws2, List.length_range]
    refine ⟨l, r, ws, ws2, rfl, rfl, (g1.trans g3) _ _ hl, hr2, sz_of (by omega), fun l' nl' => ?_⟩
    have gn := Ex.new (o := .lst (ws ++ ws2)) nl'
    refine ⟨e3.trans (g1.trans (g3.trans gn)), l', _, _, upd_same, fresh_back (e3.trans (g1.trans g3)) nl', ?_, rfl⟩
    have er : List.range (6 * (i + 1)) = List.range (6 * i) ++ (List.range 6).map fun j => 6 * i + j := by rw [Nat.mul_succ, List.range_add]
    rw [er]
    refine paired_app (paired_imp (fun _ _ z => PrN.et (Dw.Ex.et (g1.trans (g3.trans gn))) z) pws) ?_
    have h6 : ∀ v j, j ∈ List.range 6 → TV K I3 v [vi (i + 1), vi (1 + j)] → PrN K (upd I3 l' (.lst (ws ++ ws2))) v (6 * i + j) := fun v j hj ⟨b, q, sb⟩ => ⟨b, q, by
      have j6 := List.mem_range.mp hj
      have a1 : (6 * i + j) / 6 = i := by omega
      have a2 : (6 * i + j) % 6 = j := by omega
      rw [a1, a2, Nat.add_comm j 1]
      exact ex_t gn sb⟩
    have go : ∀ {vs : List V} {js : List Nat}, (∀ j ∈ js, j ∈ List.range 6) → Paired (fun v j => TV K I3 v [vi (i + 1), vi (1 + j)]) vs js → Paired (PrN K (upd I3 l' (.lst (ws ++ ws2)))) vs (js.map fun j => 6 * i + j) := fun {vs js} hm pr => by
      induction pr with
      | nil => exact .nil
      | cons x r ih => exact .cons (h6 _ _ (hm _ (List.mem_cons_self ..)) x) (ih fun j hj => hm j (List.mem_cons_of_mem _ hj))
    exact go (fun _ h => h) hws2
  · subst hσ
    replace pws : Paired (PrN K H3) ws (List.range 36) := pws
    have lp : l ≠ p ∧ l ≠ c := pu.fresh nl
    refine q_forR1 (n := ((3 : Nat) : Int)) (ea_cons ev_c ea_nil) ⟨by decide, by decide⟩ (Turn K a p c l) (fun H4 e4 => ⟨⟨0, pu.ex (e3.trans e4), Nat.zero_le _⟩, ⟨ws, e4 _ _ hl, paired_imp (fun _ _ z => PrN.et (Dw.Ex.et e4) z) pws⟩, y3, none, none, none, none, none, none, none, rfl⟩) (fun i σ H4 hi tn => ?_) (fun σ H4 tn => ?_)
    · obtain ⟨⟨t, pu4, lt⟩, ⟨ws, hl4, pws4⟩, y3, y4, y5, y6, y7, y8, y9, y10, hσ⟩ := tn
      subst hσ
      have i3 : i < 3 := by omega
      -- the signature
      refine do_set (ea_cons (ev_var rfl) ea_nil H4 (Ex.refl H4) _ fun H5 e5 => ⟨p, c, t, rfl, pu4.ex e5, by omega, fun sv sg H6 o6 pu6 hG6 sok => ?_⟩)
      have o46 : Off H4 H6 p c := (Off.of_ex e5).trans o6
      have hl6 := o46 _ _ lp.1 lp.2 hl4
      have pws6 := paired_imp (fun _ _ z => PrN.et (o46.et pu4) z) pws4
      show tSeq _ _ _ [some (.ref a), some (.ref p), some (.ref l), y3, some (vi i), some sv, y6, y7, y8, y9, y10, none, none] H6
      have low : ∀ j, j < 36 → ∀ n ∈ [j / 6 + 1, j % 6 + 1], 1 ≤ n ∧ n ≤ 6 := fun j hj n hn => by
        rcases List.mem_cons.mp hn with z | z
        · omega
        · have := List.mem_singleton.mp z; omega
      -- the sizes
      refine do_set (do_pickP (K := K) (fun j => decide ((j / 6 + 1) * (j % 6 + 1) < 7)) rfl rfl hl6 pws6 pu6 (by omega) (fun _ => rfl) (fun _ => rfl) (fun j x H1 hx hj => et_is (et_test (ev_op (et_prod rfl hx hj) ev_c rv_I0)) (by rw [decide_eq_decide]; exact Int.ofNat_lt (n := (j / 6 + 1) * (j % 6 + 1)) (m := 7))) (by decide +kernel) (fun xs j H7 hj fj hxs o7 pu7 => ?_))
      have le := of_decide_eq_true fj
      obtain ⟨n, hn⟩ : ∃ n, n = j / 6 + 1 := ⟨_, rfl⟩
      obtain ⟨m, hm⟩ : ∃ m, m = j % 6 + 1 := ⟨_, rfl⟩
      obtain ⟨xa, rfl, hxa⟩ := hxs
      have lo := low j hj
      rw [← hn, ← hm] at hxa lo le
      have o47 := o46.trans o7
      have hl7 := o7 _ _ lp.1 lp.2 hl6
      have pws7 := paired_imp (fun _ _ z => PrN.et (o7.et pu6) z) pws6
      have hG7 := hG6.et (o7.et pu6)
      show tSeq _ _ _ [some (.ref a), some (.ref p), some (.ref l), y3, some (vi i), some sv, some (.ref xa), y7, y8, y9, y10, none, none] H7
      -- the one and the other
      refine q_unl (K := K) (do_models (K := K) (σ := [some (.ref a), some (.ref p), some (.ref l), y3, some (vi i), some sv, some (.ref xa), y7, y8, y9, y10, none, none]) (ev_var rfl) (xa := xa) hxa (fun _ => rfl) (fun _ => rfl) (fun _ => rfl) (fun _ => rfl) pu7 (by omega) hG7 sok lo (fun lm v1 ts1 v2 ts2 t8 H8 o8 pu8 l8 hlm hM1 mok1 hM2 mok2 => ?_))
      refine ⟨lm, _, rfl, sq_of hlm, rfl, _, _, rfl, _, _, rfl, rfl, ?_⟩
      have o48 := o47.trans o8
      have hl8 := o8 _ _ lp.1 lp.2 hl7
      have pws8 := paired_imp (fun _ _ z => PrN.et (o8.et pu7) z) pws7
      have hG8 := hG7.et (o8.et pu7)
      show tSeq _ _ _ [some (.ref a), some (.ref p), some (.ref l), y3, some (vi i), some sv, some (.ref xa), some v1, some v2, y9, y10, none, none] H8
      -- the third
      have add1 : ∀ k : Nat, V.int ((1 : Int) + ((k : Nat) : Int)) = vi (k + 1) := fun k => by
        show V.int _ = V.int (((k + 1 : Nat)) : Int)
        rw [Int.natCast_add, Int.add_comm]
        rfl
      refine do_set (do_cons (do_ev (v := .ref p) (ev_var rfl) fun H5 e5 => do_cons (do_ev (v := sv) (ev_var rfl) fun H6 e6 => do_cons (do_op (do_ev ev_c fun H7 e7 => do_draw (n := 2) (ev_var rfl) ev_c (pu8.ex (e5.trans (e6.trans e7))) (by omega) (by decide) (by decide) fun k3 H9 hk3 o9 pu9 => ⟨1, (k3 : Int), rfl, rfl, do_nil ?_⟩)))))
      have o89 : Off H8 H9 p c := (Off.of_ex (e5.trans (e6.trans e7))).trans o9
      show sp_model K [V.ref p, sv, V.int ((1 : Int) + ((k3 : Nat) : Int))] H9 _ _
      rw [add1 k3]
      refine ⟨p, c, _, k3 + 1, sv, sg, rfl, pu9, by omega, by omega, by omega, hG8.et (o89.et pu8), sok, fun v3 ts3 ta Ha oa pua la hM3 mok3 => ?_⟩
      have o8a := o89.trans oa
      have eta := o8a.et pu8 (K := K)
      have hla := o8a _ _ lp.1 lp.2 hl8
      have pwsa := paired_imp (fun _ _ z => PrN.et eta z) pws8
      have hGa := hG8.et eta
      have hM1a := hM1.et eta
      have hM2a := hM2.et eta
      have o4a := o48.trans o8a
      show tSeq _ _ _ [some (.ref a), some (.ref p), some (.ref l), y3, some (vi i), some sv, some (.ref xa), some v1, some v2, some v3, y10, none, none] Ha
      refine q_when (b := false) (et_is (et_not (et_truB (ep_call (((sg, n, ts1), (sg, m, ts2)), (sg, k3 + 1, ts3)) (ea_cons (ev_var rfl) (ea_cons (ev_var rfl) (ea_cons (ev_var rfl) (ea_cons (ev_var rfl) ea_nil)))) (fun Hb eb => ⟨⟨sv, v1, v2, v3, rfl, ⟨hGa.ex eb, hM1a.ex eb⟩, hM2a.ex eb, hM3.ex eb⟩, ⟨sok, mok1⟩, ⟨sok, mok2⟩, ⟨sok, mok3⟩, rfl, rfl, by show n * m ≤ 6; omega, by show k3 + 1 ≤ 2; omega⟩)))) rfl) (fun hb => by cases hb) (fun _ Hb eb => ?_)
      clear hM1 hM2 hM1a hM2a hM3 mok1 mok2 mok3 hxa le lo hn hm
      -- sizes whose product is too great
      have pub := pua.ex eb
      have hlb := eb _ _ hla
      have pwsb := paired_imp (fun _ _ z => PrN.et (Dw.Ex.et eb) z) pwsa
      refine do_set (do_pickP (K := K) (fun j => decide (6 < (j / 6 + 1) * (j % 6 + 1))) rfl rfl hlb pwsb pub (by omega) (fun _ => rfl) (fun _ => rfl) (fun j x H1 hx hj => et_is (et_test (ev_op (et_prod rfl hx hj) ev_c rv_I0)) (by rw [decide_eq_decide]; exact Int.ofNat_lt (n := 6) (m := (j / 6 + 1) * (j % 6 + 1)))) (by decide +kernel) (fun xs j Hc hj fj hxs oc puc => ?_))
      have le := of_decide_eq_true fj
      obtain ⟨n, hn⟩ : ∃ n, n = j / 6 + 1 := ⟨_, rfl⟩
      obtain ⟨m, hm⟩ : ∃ m, m = j % 6 + 1 := ⟨_, rfl⟩
      obtain ⟨xb, rfl, hxb⟩ := hxs
      have lo := low j hj
      rw [← hn, ← hm] at hxb lo le
      have hlc := oc _ _ lp.1 lp.2 hlb
      have pwsc := paired_imp (fun _ _ z => PrN.et (oc.et pub) z) pwsb
      have hGc := (hGa.ex eb).et (oc.et pub)
      show tSeq _ _ _ [some (.ref a), some (.ref p), some (.ref l), y3, some (vi i), some sv, some (.ref xa), some v1, some v2, some v3, some (.ref xb), none, none] Hc
      refine q_unl (K := K) (do_models (K := K) (σ := [some (.ref a), some (.ref p), some (.ref l), y3, some (vi i), some sv, some (.ref xa), some v1, some v2, some v3, some (.ref xb), none, none]) (ev_var rfl) (xa := xb) hxb (fun _ => rfl) (fun _ => rfl) (fun _ => rfl) (fun _ => rfl) puc (by omega) hGc sok lo (fun lm w1 us1 w2 us2 td Hd od pud ld hlm hM1 mok1 hM2 mok2 => ?_))
      refine ⟨lm, _, rfl, sq_of hlm, rfl, _, _, rfl, _, _, rfl, rfl, ?_⟩
      have hld := od _ _ lp.1 lp.2 hlc
      have pwsd := paired_imp (fun _ _ z => PrN.et (od.et puc) z) pwsc
      have hGd := hGc.et (od.et puc)
      show tIfS _ _ _ _ [some (.ref a), some (.ref p), some (.ref l), y3, some (vi i), some sv, some (.ref xa), some w1, some w2, some v3, some (.ref xb), none, none] Hd
      have ref : ∀ {k : Nat} {He : Hp}, Ex Hd He → EvT (fun σ H Q => tCall (sp_refused K) [] E0 (tCons (tC (vi k)) (tCons (tVar 5) (tCons (tVar 7) (tCons (tVar 8) tNil)))) σ H fun x H' => ∃ k, TruV K x H' k ∧ Q k H') [some (.ref a), some (.ref p), some (.ref l), y3, some (vi i), some sv, some (.ref xa), some w1, some w2, some v3, some (.ref xb), none, none] He true := fun {k He} ee => et_truB (ep_call (k, ((sg, n, us1), (sg, m, us2))) (ea_cons ev_c (ea_cons (ev_var rfl) (ea_cons (ev_var rfl) (ea_cons (ev_var rfl) ea_nil)))) (fun Hf ef => ⟨[sv, w1, w2], rfl, ⟨⟨⟨sv, w1, w2, rfl, ⟨hGd.ex (ee.trans ef), hM1.ex (ee.trans ef)⟩, hM2.ex (ee.trans ef)⟩, ⟨sok, mok1⟩, ⟨sok, mok2⟩, rfl⟩, le⟩⟩))
      refine s_when (b := false) (et_is (et_or (a := false) (b := false) (et_test (ev_op ev_c ev_c (rv_ne' rfl rfl))) (fun _ => et_is (et_or (a := false) (b := false) (et_is (et_not (ref (k := 0) (Ex.refl _))) rfl) (fun _ => et_is (et_not (ref (k := 1) (Ex.refl _))) rfl)) rfl)) rfl) (fun hb => by cases hb) (fun _ He ee => ?_)
      exact ⟨⟨td, pud.ex ee, by omega⟩, ⟨ws, ee _ _ hld, paired_imp (fun _ _ z => PrN.et (Dw.Ex.et ee) z) pwsd⟩, y3, _, _, _, _, _, _, _, rfl⟩
    · obtain ⟨⟨t, pu4, lt⟩, ⟨ws, hl4, pws4⟩, y3, y4, y5, y6, y7, y8, y9, y10, hσ⟩ := tn
      subst hσ
      exact s_ret (v := .bl true) ev_c fun H5 e5 => rfl
end
end K73
end
section
namespace K73
open PySem PySem.Spec PyProof.Rows L2 Evl RZ Dw M20
section
variable {K : PySem.W.Frag} {h : Heap} {mg : Str → Option Value}
/-- a def by what the top has written -/
structure Wr (K : PySem.W.Frag) (x : Str) (st : Stmt) (f : Addr) : Prop where
  ex : ∃ (fd : FuncData), Fun K x x st f fd
  at_ : PySem.W.nsIn K mainGlobals x = some (some (.ref f))
theorem wr_mk {x : Str} {st : Stmt} {f : Addr} {od an : Option Addr} {sl : Array (Option Value)} {oc kV dc pm cd ct : Value} (a1 : PySem.W.nsIn K mainGlobals x = some (some (.ref f)))
    (l1 : K.lookup f = some ⟨oc, od, .func (PySem.W.fnOf x x (defArgs st) (defBody st) (defScope st) .none kV dc pm an cd ct), sl⟩) (c1 : PySem.W.codeIn K cd x = true) (k1 : PySem.W.keepIn K (.ref f) = true) : Wr K x st f := ⟨⟨_, fun_mk l1 c1 k1⟩, a1⟩
theorem Wr.df {x : Str} {st : Stmt} {f : Addr} {ps : List Str} (W : Wr K x st f) (X : K.In h) (G : h.Ns mainGlobals mg) (b : ∀ fd, Fun K x x st f fd → Binds K fd ps []) : Df K mg x st ps := by
  obtain ⟨fd, F⟩ := W.ex
  exact ⟨f, fd, F, PySem.W.mg_of X G W.at_, b fd F⟩
/-- a def by another name -/
structure WrQ (K : PySem.W.Frag) (x y : Str) (st : Stmt) (f : Addr) : Prop where
  ex : ∃ (fd : FuncData), Fun K y y st f fd
  at_ : PySem.W.nsIn K mainGlobals x = some (some (.ref f))
theorem wrq_mk {x y : Str} {st : Stmt} {f : Addr} {od an : Option Addr} {sl : Array (Option Value)} {oc kV dc pm cd ct : Value} (a1 : PySem.W.nsIn K mainGlobals x = some (some (.ref f)))
    (l1 : K.lookup f = some ⟨oc, od, .func (PySem.W.fnOf y y (defArgs st) (defBody st) (defScope st) .none kV dc pm an cd ct), sl⟩) (c1 : PySem.W.codeIn K cd y = true) (k1 : PySem.W.keepIn K (.ref f) = true) : WrQ K x y st f := ⟨⟨_, fun_mk l1 c1 k1⟩, a1⟩
theorem WrQ.df {x y : Str} {st : Stmt} {f : Addr} {ps : List Str} (W : WrQ K x y st f) (X : K.In h) (G : h.Ns mainGlobals mg) (b : ∀ fd, Fun K y y st f fd → Binds K fd ps []) : DfQ K mg x y st ps := by
  obtain ⟨fd, F⟩ := W.ex
  exact ⟨f, fd, F, PySem.W.mg_of X G W.at_, b fd F⟩
end

theorem all_mk {P : Program} {w : World} {K : PySem.W.Frag} {h : Heap} {mg : Str → Option Value} {fa : Addr} (X : K.In h) (G : h.Ns mainGlobals mg) (hfa : mg "law" = some (.ref fa)) (room : Room 12 callerA)
    {fl : Addr} {f0 : Addr} {f1 : Addr} {f2 : Addr} {f3 : Addr} {f4 : Addr} {f5 : Addr} {f6 : Addr} {f7 : Addr} {f8 : Addr} {f9 : Addr} {f10 : Addr} {f11 : Addr} {f12 : Addr} {f13 : Addr} {f14 : Addr} {f15 : Addr} {f16 : Addr} {f17 : Addr} {f18 : Addr} {f19 : Addr} {f20 : Addr} {f21 : Addr} {f22 : Addr} {f23 : Addr} {f24 : Addr} {f25 : Addr} {f26 : Addr} {f27 : Addr} {f28 : Addr} {f29 : Addr} {f30 : Addr} {f31 : Addr} {f32 : Addr} {f33 : Addr} {f34 : Addr} {f35 : Addr} {f36 : Addr} {f37 : Addr} {f38 : Addr} {f39 : Addr} {f40 : Addr} {f41 : Addr} {f42 : Addr} {f43 : Addr} {f44 : Addr} {f45 : Addr} {Ce Ge : Addr}
    {t_NAME_LETTERS : Tok} {t_MOST_NAME : Tok} {t_MOST_DEEDS : Tok} {t_MOST_PLACES : Tok} {t_MOST_SIZE : Tok}
    (w0 : Wr K "_law_purse" s_purse f0)
    (w1 : Wr K "_law_draw" s_draw f1)
    (w2 : Wr K "_law_pick" s_pick f2)
    (w3 : Wr K "_law_signature" s_signature f3)
    (w4 : Wr K "_law_ways" s_ways f4)
    (w5 : Wr K "_law_table" s_table f5)
    (w6 : Wr K "_law_model" s_mdl f6)
    (w7 : Wr K "_law_did" s_did f7)
    (w8 : Wr K "_law_both" s_both f8)
    (w9 : Wr K "is_name" s_is_name f9)
    (w10 : Wr K "is_whole" s_is_whole f10)
    (w11 : Wr K "is_below" s_is_below f11)
    (w12 : Wr K "is_deed" s_is_deed f12)
    (w13 : Wr K "signature_wrong" s_signature_wrong f13)
    (w14 : Wr K "need_signature" s_need_signature f14)
    (w15 : Wr K "is_size" s_is_size f15)
    (w16 : Wr K "power" s_power f16)
    (w17 : WrQ K "first_odd_cell_models" "first_odd_cell" s_first_odd_cell f17)
    (w18 : Wr K "model_wrong" s_model_wrong f18)
    (w19 : Wr K "need_model" s_need_model f19)
    (w20 : Wr K "need_two_models" s_need_two_models f20)
    (w21 : Wr K "need_product" s_need_product f21)
    (w22 : Wr K "rows_below" s_rows_below f22)
    (w23 : Wr K "place_of_row" s_place_of_row f23)
    (w24 : Wr K "product_table" s_product_table f24)
    (w25 : Wr K "product" s_product f25)
    (w26 : Wr K "sides" s_sides f26)
    (w27 : Wr K "cells_with_worths" s_cells_with_worths f27)
    (w28 : Wr K "table_of" s_table_of f28)
    (w29 : Wr K "cells_by_greatest" s_cells_by_greatest f29)
    (w30 : Wr K "leads_on" s_leads_on f30)
    (w31 : Wr K "leads" s_leads f31)
    (w32 : Wr K "is_whole" s_is_whole f32)
    (w33 : Wr K "is_below" s_is_below f33)
    (w34 : Wr K "is_row" s_is_row f34)
    (w35 : Wr K "has_lead_form" s_has_lead_form f35)
    (w36 : Wr K "cells_in_order" s_cells_in_order f36)
    (w37 : Wr K "place_of_row" s_place_of_row f37)
    (w38 : WrQ K "first_odd_cell_leads" "first_odd_cell" s_first_odd_lead f38)
    (w39 : Wr K "lead_wrong" s_lead_wrong f39)
    (w40 : Wr K "lead_judged" s_lead_judged f40)
    (w41 : Wr K "_law_right" s_right f41)
    (w42 : Wr K "need_product" s_need_product f42)
    (w43 : Wr K "product" s_product f43)
    (w44 : Wr K "sides" s_sides f44)
    (w45 : Wr K "_law_refused" s_refused f45)
    (wl : Wr K "law" s_law fl)
    (xa : PySem.W.nsIn K mainGlobals "TooMany" = some (some (.ref Ce)))
    (xg : PySem.W.nsIn K mainGlobals "DeedError" = some (some (.ref Ge)))
    (xk : PySem.W.keepIn K (.ref Ce) = true)
    (xq : PySem.W.excIn K Ce [.type "ValueError", .type "Exception", .type "BaseException", .type "object"] "ValueError.__new__" = true)
    (xt : PySem.W.typeIn K (.ref Ce) = some (.type "type"))
    (x1 : PySem.W.findIn K (.ref Ce) "__getattribute__" = some (some (.builtin "BaseException.__getattribute__")))
    (x2 : PySem.W.findIn K (.ref Ce) "__getattr__" = some none)
    (x3 : PySem.W.subIn K (.ref Ce) (.type "BaseException") = some true)
    (x4 : PySem.W.hasDictIn K Ce = true)
    (x5 : PySem.W.findIn K (.ref Ce) "__class__" = some (some (.builtin "object.__class__")))
    (x6 : PySem.W.specialIn K (.builtin "object.__class__") "__get__" = some (some (.builtin "getset_descriptor.__get__")))
    (x7 : PySem.W.takesIn K (.builtin "object.__class__") = some true)
    (x8 : PySem.W.mroIn K Ce (.type "object") = some true)
    (y1 : PySem.W.subIn K (.ref Ge) (.type "BaseException") = some true)
    (y2 : PySem.W.hasDictIn K Ge = true)
    (y3 : PySem.W.typeIn K (.ref Ge) = some (.type "type"))
    (y4 : PySem.W.subIn K (.ref Ce) (.ref Ge) = some true)
    (y5 : PySem.W.kitOne K (.ref Ce) (.ref Ce) = some true)
    (y6 : PySem.W.kitOne K (.ref Ce) (.type "ValueError") = some true)
    (z_abs : PySem.W.nsIn K mainGlobals "abs" = some none)
    (z_all : PySem.W.nsIn K mainGlobals "all" = some none)
    (z_bool : PySem.W.nsIn K mainGlobals "bool" = some none)
    (z_ValueError : PySem.W.nsIn K mainGlobals "ValueError" = some none)
    (z_divmod : PySem.W.nsIn K mainGlobals "divmod" = some none)
    (z_enumerate : PySem.W.nsIn K mainGlobals "enumerate" = some none)
    (z_int : PySem.W.nsIn K mainGlobals "int" = some none)
    (z_isinstance : PySem.W.nsIn K mainGlobals "isinstance" = some none)
    (z_len : PySem.W.nsIn K mainGlobals "len" = some none)
    (z_list : PySem.W.nsIn K mainGlobals "list" = some none)
    (z_max : PySem.W.nsIn K mainGlobals "max" = some none)
    (z_min : PySem.W.nsIn K mainGlobals "min" = some none)
    (z_range : PySem.W.nsIn K mainGlobals "range" = some none)
    (z_repr : PySem.W.nsIn K mainGlobals "repr" = some none)
    (z_sorted : PySem.W.nsIn K mainGlobals "sorted" = some none)
    (z_str : PySem.W.nsIn K mainGlobals "str" = some none)
    (z_sum : PySem.W.nsIn K mainGlobals "sum" = some none)
    (z_tuple : PySem.W.nsIn K mainGlobals "tuple" = some none)
    (z_zip : PySem.W.nsIn K mainGlobals "zip" = some none)
    (z_set : PySem.W.nsIn K mainGlobals "set" = some none)
    (k_NAME_LETTERS : PySem.W.nsIn K mainGlobals "NAME_LETTERS" = some (some (.str "abcdefghijklmnopqrst" t_NAME_LETTERS)))
    (k_MOST_NAME : PySem.W.nsIn K mainGlobals "MOST_NAME" = some (some (.int 4 t_MOST_NAME)))
    (k_MOST_DEEDS : PySem.W.nsIn K mainGlobals "MOST_DEEDS" = some (some (.int 4 t_MOST_DEEDS)))
    (k_MOST_PLACES : PySem.W.nsIn K mainGlobals "MOST_PLACES" = some (some (.int 2 t_MOST_PLACES)))
    (k_MOST_SIZE : PySem.W.nsIn K mainGlobals "MOST_SIZE" = some (some (.int 6 t_MOST_SIZE))) :
    ∃ (fd : FuncData) (st : Stmt) (N : List Str), Fun K "law" "law" st fa fd ∧ FnScope N ["_law_script"] (defScope st) ∧ (∀ (s : Shared) (u : Value), BindsTo s fd ⟨[u], []⟩ [("_law_script", u)]) ∧
      ∀ (base : Heap) (s : Shared) (H : Hp) (cdv : Value) (a : Addr) (ns : List Int), K.In base → base.Ns mainGlobals mg → ns.length ≤ 63 → SqL K H a (ns.map V.int) →
        ∃ t, PSs (cxOf CX0 P w K mg base N "law" (defScope st) fa cdv callerA [] s H E0).nox (defBody st) t ∧ t { nx := fun _ _ => False, rt := fun v _ => v = .bl true } (L2.start N [.ref a]) H := by
  have e := hfa.symm.trans (PySem.W.mg_of X G wl.at_)
  cases e
  have T : Txt mg := {
    z_abs := PySem.W.mg_none_of X G z_abs
    z_all := PySem.W.mg_none_of X G z_all
    z_bool := PySem.W.mg_none_of X G z_bool
    z_ValueError := PySem.W.mg_none_of X G z_ValueError
    z_divmod := PySem.W.mg_none_of X G z_divmod
    z_enumerate := PySem.W.mg_none_of X G z_enumerate
    z_int := PySem.W.mg_none_of X G z_int
    z_isinstance := PySem.W.mg_none_of X G z_isinstance
    z_len := PySem.W.mg_none_of X G z_len
    z_list := PySem.W.mg_none_of X G z_list
    z_max := PySem.W.mg_none_of X G z_max
    z_min := PySem.W.mg_none_of X G z_min
    z_range := PySem.W.mg_none_of X G z_range
    z_repr := PySem.W.mg_none_of X G z_repr
    z_sorted := PySem.W.mg_none_of X G z_sorted
    z_str := PySem.W.mg_none_of X G z_str
    z_sum := PySem.W.mg_none_of X G z_sum
    z_tuple := PySem.W.mg_none_of X G z_tuple
    z_zip := PySem.W.mg_none_of X G z_zip
    z_set := PySem.W.mg_none_of X G z_set
    c_NAME_LETTERS := ⟨_, PySem.W.mg_of X G k_NAME_LETTERS⟩
    c_MOST_NAME := ⟨_, PySem.W.mg_of X G k_MOST_NAME⟩
    c_MOST_DEEDS := ⟨_, PySem.W.mg_of X G k_MOST_DEEDS⟩
    c_MOST_PLACES := ⟨_, PySem.W.mg_of X G k_MOST_PLACES⟩
    c_MOST_SIZE := ⟨_, PySem.W.mg_of X G k_MOST_SIZE⟩ }
  have er : ErT K mg Ce Ge := ⟨⟨PySem.W.mg_of X G xa, xk, xq, xt, ⟨x1, x2, x3, x4, x5, x6, x7, x8⟩⟩, PySem.W.mg_of X G xg, PySem.W.exm_ref y1 y2 y3 y4, y5, y6⟩
  have D0 : Df K mg "_law_purse" s_purse ["_law_script"] := w0.df X G fun fd F => by
    obtain ⟨oc, od, kV, doc, pm, an, cdv, ct, osl, e, _⟩ := F.ex
    subst e
    exact F.binds fun _ _ _ _ _ _ us hl => match us, hl with | [_], _ => rfl
  have D1 : Df K mg "_law_draw" s_draw ["_law_purse_here", "_law_out_of"] := w1.df X G fun fd F => by
    obtain ⟨oc, od, kV, doc, pm, an, cdv, ct, osl, e, _⟩ := F.ex
    subst e
    exact F.binds fun _ _ _ _ _ _ us hl => match us, hl with | [_, _], _ => rfl
  have D2 : Df K mg "_law_pick" s_pick ["_law_purse_here", "_law_some"] := w2.df X G fun fd F => by
    obtain ⟨oc, od, kV, doc, pm, an, cdv, ct, osl, e, _⟩ := F.ex
    subst e
    exact F.binds fun _ _ _ _ _ _ us hl => match us, hl with | [_, _], _ => rfl
  have D3 : Df K mg "_law_signature" s_signature ["_law_purse_here"] := w3.df X G fun fd F => by
    obtain ⟨oc, od, kV, doc, pm, an, cdv, ct, osl, e, _⟩ := F.ex
    subst e
    exact F.binds fun _ _ _ _ _ _ us hl => match us, hl with | [_], _ => rfl
  have D4 : Df K mg "_law_ways" s_ways ["_law_many", "_law_size"] := w4.df X G fun fd F => by
    obtain ⟨oc, od, kV, doc, pm, an, cdv, ct, osl, e, _⟩ := F.ex
    subst e
    exact F.binds fun _ _ _ _ _ _ us hl => match us, hl with | [_, _], _ => rfl
  have D5 : Df K mg "_law_table" s_table ["_law_purse_here", "_law_many", "_law_size"] := w5.df X G fun fd F => by
    obtain ⟨oc, od, kV, doc, pm, an, cdv, ct, osl, e, _⟩ := F.ex
    subst e
    exact F.binds fun _ _ _ _ _ _ us hl => match us, hl with | [_, _, _], _ => rfl
  have D6 : Df K mg "_law_model" s_mdl ["_law_purse_here", "_law_signature_here", "_law_size"] := w6.df X G fun fd F => by
    obtain ⟨oc, od, kV, doc, pm, an, cdv, ct, osl, e, _⟩ := F.ex
    subst e
    exact F.binds fun _ _ _ _ _ _ us hl => match us, hl with | [_, _, _], _ => rfl
  have D7 : Df K mg "_law_did" s_did ["_law_signature_here", "_law_model_here", "_law_name", "_law_args"] := w7.df X G fun fd F => by
    obtain ⟨oc, od, kV, doc, pm, an, cdv, ct, osl, e, _⟩ := F.ex
    subst e
    exact F.binds fun _ _ _ _ _ _ us hl => match us, hl with | [_, _, _, _], _ => rfl
  have D8 : Df K mg "_law_both" s_both ["_law_signature_here", "_law_one", "_law_other"] := w8.df X G fun fd F => by
    obtain ⟨oc, od, kV, doc, pm, an, cdv, ct, osl, e, _⟩ := F.ex
    subst e
    exact F.binds fun _ _ _ _ _ _ us hl => match us, hl with | [_, _, _], _ => rfl
  have D9 : Df K mg "is_name" s_is_name ["thing"] := w9.df X G fun fd F => by
    obtain ⟨oc, od, kV, doc, pm, an, cdv, ct, osl, e, _⟩ := F.ex
    subst e
    exact F.binds fun _ _ _ _ _ _ us hl => match us, hl with | [_], _ => rfl
  have D10 : Df K mg "is_whole" s_is_whole ["thing"] := w10.df X G fun fd F => by
    obtain ⟨oc, od, kV, doc, pm, an, cdv, ct, osl, e, _⟩ := F.ex
    subst e
    exact F.binds fun _ _ _ _ _ _ us hl => match us, hl with | [_], _ => rfl
  have D11 : Df K mg "is_below" s_is_below ["thing", "size"] := w11.df X G fun fd F => by
    obtain ⟨oc, od, kV, doc, pm, an, cdv, ct, osl, e, _⟩ := F.ex
    subst e
    exact F.binds fun _ _ _ _ _ _ us hl => match us, hl with | [_, _], _ => rfl
  have D12 : Df K mg "is_deed" s_is_deed ["thing"] := w12.df X G fun fd F => by
    obtain ⟨oc, od, kV, doc, pm, an, cdv, ct, osl, e, _⟩ := F.ex
    subst e
    exact F.binds fun _ _ _ _ _ _ us hl => match us, hl with | [_], _ => rfl
  have D13 : Df K mg "signature_wrong" s_signature_wrong ["thing"] := w13.df X G fun fd F => by
    obtain ⟨oc, od, kV, doc, pm, an, cdv, ct, osl, e, _⟩ := F.ex
    subst e
    exact F.binds fun _ _ _ _ _ _ us hl => match us, hl with | [_], _ => rfl
  have D14 : Df K mg "need_signature" s_need_signature ["signature"] := w14.df X G fun fd F => by
    obtain ⟨oc, od, kV, doc, pm, an, cdv, ct, osl, e, _⟩ := F.ex
    subst e
    exact F.binds fun _ _ _ _ _ _ us hl => match us, hl with | [_], _ => rfl
  have D15 : Df K mg "is_size" s_is_size ["thing"] := w15.df X G fun fd F => by
    obtain ⟨oc, od, kV, doc, pm, an, cdv, ct, osl, e, _⟩ := F.ex
    subst e
    exact F.binds fun _ _ _ _ _ _ us hl => match us, hl with | [_], _ => rfl
  have D16 : Df K mg "power" s_power ["base", "many"] := w16.df X G fun fd F => by
    obtain ⟨oc, od, kV, doc, pm, an, cdv, ct, osl, e, _⟩ := F.ex
    subst e
    exact F.binds fun _ _ _ _ _ _ us hl => match us, hl with | [_, _], _ => rfl
  have D17 : DfQ K mg "first_odd_cell_models" "first_odd_cell" s_first_odd_cell ["size", "tables"] := w17.df X G fun fd F => by
    obtain ⟨oc, od, kV, doc, pm, an, cdv, ct, osl, e, _⟩ := F.ex
    subst e
    exact F.binds fun _ _ _ _ _ _ us hl => match us, hl with | [_, _], _ => rfl
  have D18 : Df K mg "model_wrong" s_model_wrong ["signature", "thing"] := w18.df X G fun fd F => by
    obtain ⟨oc, od, kV, doc, pm, an, cdv, ct, osl, e, _⟩ := F.ex
    subst e
    exact F.binds fun _ _ _ _ _ _ us hl => match us, hl with | [_, _], _ => rfl
  have D19 : Df K mg "need_model" s_need_model ["signature", "model"] := w19.df X G fun fd F => by
    obtain ⟨oc, od, kV, doc, pm, an, cdv, ct, osl, e, _⟩ := F.ex
    subst e
    exact F.binds fun _ _ _ _ _ _ us hl => match us, hl with | [_, _], _ => rfl
  have D20 : Df K mg "need_two_models" s_need_two_models ["signature", "one", "other"] := w20.df X G fun fd F => by
    obtain ⟨oc, od, kV, doc, pm, an, cdv, ct, osl, e, _⟩ := F.ex
    subst e
    exact F.binds fun _ _ _ _ _ _ us hl => match us, hl with | [_, _, _], _ => rfl
  have D21 : Df K mg "need_product" s_need_product ["signature", "one", "other"] := w21.df X G fun fd F => by
    obtain ⟨oc, od, kV, doc, pm, an, cdv, ct, osl, e, _⟩ := F.ex
    subst e
    exact F.binds fun _ _ _ _ _ _ us hl => match us, hl with | [_, _, _], _ => rfl
  have D22 : Df K mg "rows_below" s_rows_below ["size", "many"] := w22.df X G fun fd F => by
    obtain ⟨oc, od, kV, doc, pm, an, cdv, ct, osl, e, _⟩ := F.ex
    subst e
    exact F.binds fun _ _ _ _ _ _ us hl => match us, hl with | [_, _], _ => rfl
  have D23 : Df K mg "place_of_row" s_place_of_row ["size", "row"] := w23.df X G fun fd F => by
    obtain ⟨oc, od, kV, doc, pm, an, cdv, ct, osl, e, _⟩ := F.ex
    subst e
    exact F.binds fun _ _ _ _ _ _ us hl => match us, hl with | [_, _], _ => rfl
  have D24 : Df K mg "product_table" s_product_table ["one", "other", "places", "first", "second"] := w24.df X G fun fd F => by
    obtain ⟨oc, od, kV, doc, pm, an, cdv, ct, osl, e, _⟩ := F.ex
    subst e
    exact F.binds fun _ _ _ _ _ _ us hl => match us, hl with | [_, _, _, _, _], _ => rfl
  have D25 : Df K mg "product" s_product ["signature", "one", "other"] := w25.df X G fun fd F => by
    obtain ⟨oc, od, kV, doc, pm, an, cdv, ct, osl, e, _⟩ := F.ex
    subst e
    exact F.binds fun _ _ _ _ _ _ us hl => match us, hl with | [_, _, _], _ => rfl
  have D26 : Df K mg "sides" s_sides ["signature", "one", "other"] := w26.df X G fun fd F => by
    obtain ⟨oc, od, kV, doc, pm, an, cdv, ct, osl, e, _⟩ := F.ex
    subst e
    exact F.binds fun _ _ _ _ _ _ us hl => match us, hl with | [_, _, _], _ => rfl
  have D27 : Df K mg "cells_with_worths" s_cells_with_worths ["signature", "model"] := w27.df X G fun fd F => by
    obtain ⟨oc, od, kV, doc, pm, an, cdv, ct, osl, e, _⟩ := F.ex
    subst e
    exact F.binds fun _ _ _ _ _ _ us hl => match us, hl with | [_, _], _ => rfl
  have D28 : Df K mg "table_of" s_table_of ["signature", "tables", "name"] := w28.df X G fun fd F => by
    obtain ⟨oc, od, kV, doc, pm, an, cdv, ct, osl, e, _⟩ := F.ex
    subst e
    exact F.binds fun _ _ _ _ _ _ us hl => match us, hl with | [_, _, _], _ => rfl
  have D29 : Df K mg "cells_by_greatest" s_cells_by_greatest ["signature", "one", "other"] := w29.df X G fun fd F => by
    obtain ⟨oc, od, kV, doc, pm, an, cdv, ct, osl, e, _⟩ := F.ex
    subst e
    exact F.binds fun _ _ _ _ _ _ us hl => match us, hl with | [_, _, _], _ => rfl
  have D30 : Df K mg "leads_on" s_leads_on ["cells", "size", "images"] := w30.df X G fun fd F => by
    obtain ⟨oc, od, kV, doc, pm, an, cdv, ct, osl, e, _⟩ := F.ex
    subst e
    exact F.binds fun _ _ _ _ _ _ us hl => match us, hl with | [_, _, _], _ => rfl
  have D31 : Df K mg "leads" s_leads ["signature", "one", "other"] := w31.df X G fun fd F => by
    obtain ⟨oc, od, kV, doc, pm, an, cdv, ct, osl, e, _⟩ := F.ex
    subst e
    exact F.binds fun _ _ _ _ _ _ us hl => match us, hl with | [_, _, _], _ => rfl
  have D32 : Df K mg "is_whole" s_is_whole ["thing"] := w32.df X G fun fd F => by
    obtain ⟨oc, od, kV, doc, pm, an, cdv, ct, osl, e, _⟩ := F.ex
    subst e
    exact F.binds fun _ _ _ _ _ _ us hl => match us, hl with | [_], _ => rfl
  have D33 : Df K mg "is_below" s_is_below ["thing", "size"] := w33.df X G fun fd F => by
    obtain ⟨oc, od, kV, doc, pm, an, cdv, ct, osl, e, _⟩ := F.ex
    subst e
    exact F.binds fun _ _ _ _ _ _ us hl => match us, hl with | [_, _], _ => rfl
  have D34 : Df K mg "is_row" s_is_row ["thing", "many", "size"] := w34.df X G fun fd F => by
    obtain ⟨oc, od, kV, doc, pm, an, cdv, ct, osl, e, _⟩ := F.ex
    subst e
    exact F.binds fun _ _ _ _ _ _ us hl => match us, hl with | [_, _, _], _ => rfl
  have D35 : Df K mg "has_lead_form" s_has_lead_form ["one", "other", "thing"] := w35.df X G fun fd F => by
    obtain ⟨oc, od, kV, doc, pm, an, cdv, ct, osl, e, _⟩ := F.ex
    subst e
    exact F.binds fun _ _ _ _ _ _ us hl => match us, hl with | [_, _, _], _ => rfl
  have D36 : Df K mg "cells_in_order" s_cells_in_order ["signature", "size"] := w36.df X G fun fd F => by
    obtain ⟨oc, od, kV, doc, pm, an, cdv, ct, osl, e, _⟩ := F.ex
    subst e
    exact F.binds fun _ _ _ _ _ _ us hl => match us, hl with | [_, _], _ => rfl
  have D37 : Df K mg "place_of_row" s_place_of_row ["size", "row"] := w37.df X G fun fd F => by
    obtain ⟨oc, od, kV, doc, pm, an, cdv, ct, osl, e, _⟩ := F.ex
    subst e
    exact F.binds fun _ _ _ _ _ _ us hl => match us, hl with | [_, _], _ => rfl
  have D38 : DfQ K mg "first_odd_cell_leads" "first_odd_cell" s_first_odd_lead ["signature", "one", "other", "images"] := w38.df X G fun fd F => by
    obtain ⟨oc, od, kV, doc, pm, an, cdv, ct, osl, e, _⟩ := F.ex
    subst e
    exact F.binds fun _ _ _ _ _ _ us hl => match us, hl with | [_, _, _, _], _ => rfl
  have D39 : Df K mg "lead_wrong" s_lead_wrong ["signature", "one", "other", "thing"] := w39.df X G fun fd F => by
    obtain ⟨oc, od, kV, doc, pm, an, cdv, ct, osl, e, _⟩ := F.ex
    subst e
    exact F.binds fun _ _ _ _ _ _ us hl => match us, hl with | [_, _, _, _], _ => rfl
  have D40 : Df K mg "lead_judged" s_lead_judged ["signature", "one", "other", "thing"] := w40.df X G fun fd F => by
    obtain ⟨oc, od, kV, doc, pm, an, cdv, ct, osl, e, _⟩ := F.ex
    subst e
    exact F.binds fun _ _ _ _ _ _ us hl => match us, hl with | [_, _, _, _], _ => rfl
  have D41 : Df K mg "_law_right" s_right ["_law_signature_here", "_law_one", "_law_other", "_law_third"] := w41.df X G fun fd F => by
    obtain ⟨oc, od, kV, doc, pm, an, cdv, ct, osl, e, _⟩ := F.ex
    subst e
    exact F.binds fun _ _ _ _ _ _ us hl => match us, hl with | [_, _, _, _], _ => rfl
  have D42 : Df K mg "need_product" s_need_product ["signature", "one", "other"] := w42.df X G fun fd F => by
    obtain ⟨oc, od, kV, doc, pm, an, cdv, ct, osl, e, _⟩ := F.ex
    subst e
    exact F.binds fun _ _ _ _ _ _ us hl => match us, hl with | [_, _, _], _ => rfl
  have D43 : Df K mg "product" s_product ["signature", "one", "other"] := w43.df X G fun fd F => by
    obtain ⟨oc, od, kV, doc, pm, an, cdv, ct, osl, e, _⟩ := F.ex
    subst e
    exact F.binds fun _ _ _ _ _ _ us hl => match us, hl with | [_, _, _], _ => rfl
  have D44 : Df K mg "sides" s_sides ["signature", "one", "other"] := w44.df X G fun fd F => by
    obtain ⟨oc, od, kV, doc, pm, an, cdv, ct, osl, e, _⟩ := F.ex
    subst e
    exact F.binds fun _ _ _ _ _ _ us hl => match us, hl with | [_, _, _], _ => rfl
  have D45 : Df K mg "_law_refused" s_refused ["_law_way_here", "_law_signature_here", "_law_one", "_law_other"] := w45.df X G fun fd F => by
    obtain ⟨oc, od, kV, doc, pm, an, cdv, ct, osl, e, _⟩ := F.ex
    subst e
    exact F.binds fun _ _ _ _ _ _ us hl => match us, hl with | [_, _, _, _], _ => rfl
  obtain ⟨fd, F⟩ := wl.ex
  refine ⟨fd, s_law, ["_law_script", "_law_purse_here", "_law_every", "_law_size", "_law_time", "_law_signature_here", "_law_sizes", "_law_one", "_law_other", "_law_third", "_law_great", "_law_many", "_law_pair"], F, sc_law, fun s u => ?_, fun base s H cdv a ns inB nsB len seq => ?_⟩
  · obtain ⟨oc, od, kV, doc, pm, an, cdv, ct, osl, e, _⟩ := F.ex
    subst e
    exact .of_eq rfl
  · have c_purse := c_purse (P := P) (w := w) (base := base) T D0 
    have c_draw := c_draw (P := P) (w := w) (base := base) T D1 
    have c_pick := c_pick (P := P) (w := w) (base := base) T D2 c_draw
    have c_signature := c_signature (P := P) (w := w) (base := base) T D3 c_pick
    have c_ways := c_ways (P := P) (w := w) (base := base) T D4 
    have c_table := c_table (P := P) (w := w) (base := base) T D5 c_draw c_ways
    have c_model := c_model (P := P) (w := w) (base := base) T D6 c_table
    have c_did := c_did (P := P) (w := w) (base := base) T D7 
    have c_both := c_both (P := P) (w := w) (base := base) T D8 c_ways c_did
    have c_is_name := c_is_name (P := P) (w := w) (base := base) T D9 
    have c_is_whole := c_is_whole (P := P) (w := w) (base := base) T D10 
    have c_is_below := c_is_below (P := P) (w := w) (base := base) T D11 c_is_whole
    have c_is_deed := c_is_deed (P := P) (w := w) (base := base) T D12 c_is_name c_is_below
    have c_signature_wrong := c_signature_wrong (P := P) (w := w) (base := base) T D13 c_is_deed
    have c_need_signature := c_need_signature (P := P) (w := w) (base := base) T D14 c_signature_wrong
    have c_is_size := c_is_size (P := P) (w := w) (base := base) T D15 c_is_whole
    have c_power := c_power (P := P) (w := w) (base := base) T D16 
    have c_first_odd_cell_models := c_first_odd_cell_models (P := P) (w := w) (base := base) T D17 c_is_below
    have c_model_wrong := c_model_wrong (P := P) (w := w) (base := base) T D18 c_need_signature c_is_size c_power c_first_odd_cell_models
    have c_need_model := c_need_model (P := P) (w := w) (base := base) T D19 c_model_wrong
    have c_need_two_models := c_need_two_models (P := P) (w := w) (base := base) T D20 c_need_model
    have c_need_product := c_need_product (P := P) (w := w) (base := base) T D21 c_need_two_models
    have c_rows_below := c_rows_below (P := P) (w := w) (base := base) T D22 
    have c_place_of_row := c_place_of_row (P := P) (w := w) (base := base) T D23 
    have c_product_table := c_product_table (P := P) (w := w) (base := base) T D24 c_rows_below c_place_of_row
    have c_product := c_product (P := P) (w := w) (base := base) T D25 c_need_product c_product_table
    have c_sides := c_sides (P := P) (w := w) (base := base) T D26 c_need_product
    have c_cells_with_worths := c_cells_with_worths (P := P) (w := w) (base := base) T D27 c_rows_below
    have c_table_of := c_table_of (P := P) (w := w) (base := base) T D28 
    have c_cells_by_greatest := c_cells_by_greatest (P := P) (w := w) (base := base) T D29 c_cells_with_worths c_table_of
    have c_leads_on := c_leads_on (P := P) (w := w) (base := base) T D30 c_place_of_row
    have c_leads := c_leads (P := P) (w := w) (base := base) T D31 c_need_two_models c_cells_by_greatest c_leads_on
    have c_whole_any := c_whole_any (P := P) (w := w) (base := base) T D32 
    have c_below_any := c_below_any (P := P) (w := w) (base := base) T D33 c_whole_any
    have c_row_any := c_row_any (P := P) (w := w) (base := base) T D34 c_below_any
    have c_has_lead_form := c_has_lead_form (P := P) (w := w) (base := base) T D35 c_row_any
    have c_cells_in_order := c_cells_in_order (P := P) (w := w) (base := base) T D36 c_rows_below
    have c_place_of_rowT := c_place_of_rowT (P := P) (w := w) (base := base) T D37 
    have c_first_odd_cell_leads := c_first_odd_cell_leads (P := P) (w := w) (base := base) T D38 c_cells_in_order c_table_of c_place_of_rowT c_leads_on
    have c_lead_wrong := c_lead_wrong (P := P) (w := w) (base := base) T D39 c_has_lead_form c_first_odd_cell_leads
    have c_lead_judged := c_lead_judged (P := P) (w := w) (base := base) T D40 c_need_two_models c_lead_wrong
    have c_right := c_right (P := P) (w := w) (base := base) T D41 c_both c_product c_sides c_leads c_lead_judged
    have c_need_productX := c_need_productX (P := P) (w := w) (base := base) T D42 er c_need_two_models
    have c_productX := c_productX (P := P) (w := w) (base := base) T D43 c_need_productX
    have c_sidesX := c_sidesX (P := P) (w := w) (base := base) T D44 c_need_productX
    have c_refused := c_refused (P := P) (w := w) (base := base) T D45 er c_productX c_sidesX
    exact law_ok T c_purse c_draw c_pick c_signature c_model c_right c_refused room s H fa cdv a ns len seq
end K73
end
open PySem PySem.W PyProof.Rows
set_option maxHeartbeats 0 in
theorem PySem.Challenge.cw_deedworlds_k73_products_and_sides_holds : PySem.Challenge.rw_deedworlds_k73_products_and_sides.Holds := by
  w_on; o_law; k_head; (case hw => w_witness2)
  k_fill
  refine Dw.walkG (l := PySem.Challenge.rw_deedworlds_k73_products_and_sides) (n := 63) (k := 11) (x := "_law_script") rfl (by decide) rfl ⟨rfl, by decide, by decide⟩ (fun w h Y => PySem.W.kIn_of Y) ?F
  case F =>
    intro w mg fa h KX G hmg
    refine' K73.all_mk KX G hmg ⟨rfl, by decide, by decide⟩ (K73.wr_mk ?a0 ?l0 ?c0 ?k0) (K73.wr_mk ?a1 ?l1 ?c1 ?k1) (K73.wr_mk ?a2 ?l2 ?c2 ?k2) (K73.wr_mk ?a3 ?l3 ?c3 ?k3) (K73.wr_mk ?a4 ?l4 ?c4 ?k4) (K73.wr_mk ?a5 ?l5 ?c5 ?k5) (K73.wr_mk ?a6 ?l6 ?c6 ?k6) (K73.wr_mk ?a7 ?l7 ?c7 ?k7) (K73.wr_mk ?a8 ?l8 ?c8 ?k8) (K73.wr_mk ?a9 ?l9 ?c9 ?k9) (K73.wr_mk ?a10 ?l10 ?c10 ?k10) (K73.wr_mk ?a11 ?l11 ?c11 ?k11) (K73.wr_mk ?a12 ?l12 ?c12 ?k12) (K73.wr_mk ?a13 ?l13 ?c13 ?k13) (K73.wr_mk ?a14 ?l14 ?c14 ?k14) (K73.wr_mk ?a15 ?l15 ?c15 ?k15) (K73.wr_mk ?a16 ?l16 ?c16 ?k16) (K73.wrq_mk ?a17 ?l17 ?c17 ?k17) (K73.wr_mk ?a18 ?l18 ?c18 ?k18) (K73.wr_mk ?a19 ?l19 ?c19 ?k19) (K73.wr_mk ?a20 ?l20 ?c20 ?k20) (K73.wr_mk ?a21 ?l21 ?c21 ?k21) (K73.wr_mk ?a22 ?l22 ?c22 ?k22) (K73.wr_mk ?a23 ?l23 ?c23 ?k23) (K73.wr_mk ?a24 ?l24 ?c24 ?k24) (K73.wr_mk ?a25 ?l25 ?c25 ?k25) (K73.wr_mk ?a26 ?l26 ?c26 ?k26) (K73.wr_mk ?a27 ?l27 ?c27 ?k27) (K73.wr_mk ?a28 ?l28 ?c28 ?k28) (K73.wr_mk ?a29 ?l29 ?c29 ?k29) (K73.wr_mk ?a30 ?l30 ?c30 ?k30) (K73.wr_mk ?a31 ?l31 ?c31 ?k31) (K73.wr_mk ?a32 ?l32 ?c32 ?k32) (K73.wr_mk ?a33 ?l33 ?c33 ?k33) (K73.wr_mk ?a34 ?l34 ?c34 ?k34) (K73.wr_mk ?a35 ?l35 ?c35 ?k35) (K73.wr_mk ?a36 ?l36 ?c36 ?k36) (K73.wr_mk ?a37 ?l37 ?c37 ?k37) (K73.wrq_mk ?a38 ?l38 ?c38 ?k38) (K73.wr_mk ?a39 ?l39 ?c39 ?k39) (K73.wr_mk ?a40 ?l40 ?c40 ?k40) (K73.wr_mk ?a41 ?l41 ?c41 ?k41) (K73.wr_mk ?a42 ?l42 ?c42 ?k42) (K73.wr_mk ?a43 ?l43 ?c43 ?k43) (K73.wr_mk ?a44 ?l44 ?c44 ?k44) (K73.wr_mk ?a45 ?l45 ?c45 ?k45) (K73.wr_mk ?al ?ll ?cl ?kl) ?xa ?xg ?xk ?xq ?xt ?x1 ?x2 ?x3 ?x4 ?x5 ?x6 ?x7 ?x8 ?y1 ?y2 ?y3 ?y4 ?y5 ?y6 ?z_abs ?z_all ?z_bool ?z_ValueError ?z_divmod ?z_enumerate ?z_int ?z_isinstance ?z_len ?z_list ?z_max ?z_min ?z_range ?z_repr ?z_sorted ?z_str ?z_sum ?z_tuple ?z_zip ?z_set ?k_NAME_LETTERS ?k_MOST_NAME ?k_MOST_DEEDS ?k_MOST_PLACES ?k_MOST_SIZE
    (case a0 => k_is); (case l0 => k_is); (case c0 => k_is); (case k0 => k_is)
    (case a1 => k_is); (case l1 => k_is); (case c1 => k_is); (case k1 => k_is)
    (case a2 => k_is); (case l2 => k_is); (case c2 => k_is); (case k2 => k_is)
    (case a3 => k_is); (case l3 => k_is); (case c3 => k_is); (case k3 => k_is)
    (case a4 => k_is); (case l4 => k_is); (case c4 => k_is); (case k4 => k_is)
    (case a5 => k_is); (case l5 => k_is); (case c5 => k_is); (case k5 => k_is)
    (case a6 => k_is); (case l6 => k_is); (case c6 => k_is); (case k6 => k_is)
    (case a7 => k_is); (case l7 => k_is); (case c7 => k_is); (case k7 => k_is)
    (case a8 => k_is); (case l8 => k_is); (case c8 => k_is); (case k8 => k_is)
    (case a9 => k_is); (case l9 => k_is); (case c9 => k_is); (case k9 => k_is)
    (case a10 => k_is); (case l10 => k_is); (case c10 => k_is); (case k10 => k_is)
    (case a11 => k_is); (case l11 => k_is); (case c11 => k_is); (case k11 => k_is)
    (case a12 => k_is); (case l12 => k_is); (case c12 => k_is); (case k12 => k_is)
    (case a13 => k_is); (case l13 => k_is); (case c13 => k_is); (case k13 => k_is)
    (case a14 => k_is); (case l14 => k_is); (case c14 => k_is); (case k14 => k_is)
    (case a15 => k_is); (case l15 => k_is); (case c15 => k_is); (case k15 => k_is)
    (case a16 => k_is); (case l16 => k_is); (case c16 => k_is); (case k16 => k_is)
    (case a17 => k_is); (case l17 => k_is); (case c17 => k_is); (case k17 => k_is)
    (case a18 => k_is); (case l18 => k_is); (case c18 => k_is); (case k18 => k_is)
    (case a19 => k_is); (case l19 => k_is); (case c19 => k_is); (case k19 => k_is)
    (case a20 => k_is); (case l20 => k_is); (case c20 => k_is); (case k20 => k_is)
    (case a21 => k_is); (case l21 => k_is); (case c21 => k_is); (case k21 => k_is)
    (case a22 => k_is); (case l22 => k_is); (case c22 => k_is); (case k22 => k_is)
    (case a23 => k_is); (case l23 => k_is); (case c23 => k_is); (case k23 => k_is)
    (case a24 => k_is); (case l24 => k_is); (case c24 => k_is); (case k24 => k_is)
    (case a25 => k_is); (case l25 => k_is); (case c25 => k_is); (case k25 => k_is)
    (case a26 => k_is); (case l26 => k_is); (case c26 => k_is); (case k26 => k_is)
    (case a27 => k_is); (case l27 => k_is); (case c27 => k_is); (case k27 => k_is)
    (case a28 => k_is); (case l28 => k_is); (case c28 => k_is); (case k28 => k_is)
    (case a29 => k_is); (case l29 => k_is); (case c29 => k_is); (case k29 => k_is)
    (case a30 => k_is); (case l30 => k_is); (case c30 => k_is); (case k30 => k_is)
    (case a31 => k_is); (case l31 => k_is); (case c31 => k_is); (case k31 => k_is)
    (case a32 => k_is); (case l32 => k_is); (case c32 => k_is); (case k32 => k_is)
    (case a33 => k_is); (case l33 => k_is); (case c33 => k_is); (case k33 => k_is)
    (case a34 => k_is); (case l34 => k_is); (case c34 => k_is); (case k34 => k_is)
    (case a35 => k_is); (case l35 => k_is); (case c35 => k_is); (case k35 => k_is)
    (case a36 => k_is); (case l36 => k_is); (case c36 => k_is); (case k36 => k_is)
    (case a37 => k_is); (case l37 => k_is); (case c37 => k_is); (case k37 => k_is)
    (case a38 => k_is); (case l38 => k_is); (case c38 => k_is); (case k38 => k_is)
    (case a39 => k_is); (case l39 => k_is); (case c39 => k_is); (case k39 => k_is)
    (case a40 => k_is); (case l40 => k_is); (case c40 => k_is); (case k40 => k_is)
    (case a41 => k_is); (case l41 => k_is); (case c41 => k_is); (case k41 => k_is)
    (case a42 => k_is); (case l42 => k_is); (case c42 => k_is); (case k42 => k_is)
    (case a43 => k_is); (case l43 => k_is); (case c43 => k_is); (case k43 => k_is)
    (case a44 => k_is); (case l44 => k_is); (case c44 => k_is); (case k44 => k_is)
    (case a45 => k_is); (case l45 => k_is); (case c45 => k_is); (case k45 => k_is)
    (case al => k_is); (case ll => k_is); (case cl => k_is); (case kl => k_is)
    (case xa => k_is); (case xg => k_is); (case xk => k_is); (case xq => k_exc); (case xt => k_is); (case x1 => k_is); (case x2 => k_is); (case x3 => k_is); (case x4 => k_is); (case x5 => k_is); (case x6 => k_is); (case x7 => k_is); (case x8 => k_is); (case y1 => k_is); (case y2 => k_is); (case y3 => k_is); (case y4 => first | rfl | k_is); (case y5 => kit_is); (case y6 => kit_is)
    (case z_abs => k_is); (case z_all => k_is); (case z_bool => k_is); (case z_ValueError => k_is); (case z_divmod => k_is); (case z_enumerate => k_is); (case z_int => k_is); (case z_isinstance => k_is); (case z_len => k_is); (case z_list => k_is); (case z_max => k_is); (case z_min => k_is); (case z_range => k_is); (case z_repr => k_is); (case z_sorted => k_is); (case z_str => k_is); (case z_sum => k_is); (case z_tuple => k_is); (case z_zip => k_is); (case z_set => k_is)
    (case k_NAME_LETTERS => k_is); (case k_MOST_NAME => k_is); (case k_MOST_DEEDS => k_is); (case k_MOST_PLACES => k_is); (case k_MOST_SIZE => k_is)
