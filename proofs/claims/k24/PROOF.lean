import PyProof.Rows.All
import Wide.All
import OpenK.AllK
import Wide.FinOn
import PySem.Challenge.RW_deedworlds_k24_maps_refused
import HandS.Base
import HandS.Call
import HandS.List
import HandS.Comp
import HandS.Iter
import HandS.Evl
import HandS.Words
import KE.GoesMore
import KE.GoesEnum
import PyProof.ReprRoads
import PyProof.AutoIntOps
import HandS.Ends
import HandS.ForMost
import HandS.IsInst
import HandS.Zip
import HandS.TupAny
import HandS.Conv
import HandS.NoneIn
import HandS.More
import HandS.Wide
import HandS.Walk
import HandS.ReCall
import KE.KIndexOf
import PyProof.Rows.RegFStrParts
import HandS.Deep
import KE.KDictPairs
import KE.KDictZip
import HandS.Dict
import HandS.Set
import HandS.SetFor
import HandS.TupSets
import PyProof.Rows.SortStr
import HandS.Strs
import HandS.Style
import KE.GoesZip
import PyProof.ListStr
import HandS.FStr
import HandS.DictComp
import HandS.ListItems
import HandS.Text
import KE.KEqDict
import KE.KDictItemsList
import HandS.TupMul
import HandS.Exc
import HandS.ExcOwn
import HandS.WordsExc
import KE.KExcIs
import HandS.ExcIs
import PyProof.RowDictHeap
import PyProof.ReprLen
import HandS.RaiseMore
import KE.DatumOrd
import PyProof.Rows.SetFrom
import KE.SortData
import KE.KTupSum
import HandS.SortKw
import HandS.Sort
import HandS.Small
import HandS.RevRange
import HandS.Codes
import KE.RegKIsAll
set_option Elab.async false
set_option linter.all false
set_option maxRecDepth 100000
set_option maxHeartbeats  4000000
section
/-! a rule of our own over the hand layer: for .. in enumerate(a tuple) -/
namespace Dw
open PySem PySem.Spec PyProof.Rows L2
/-- the walker of a tuple, and what counts beside it, as enumerate lays them -/
abbrev tupWalker (tp : Addr) : Obj := { cls := .type "tuple_iterator", data := .fields #[.ref tp, .int 0 0] }
abbrev counter (wk : Addr) : Obj := { cls := .type "enumerate", data := .fields #[.none, .bool false, .ref wk, rawInt 0, .none, .none] }
theorem new_enumT (tp : Addr) (cells : Array Value) (cap : Nat) (dc : Option Addr) (osl : Array (Option Value)) :
    Meets (Builtin.«enumerate.__new__» ⟨[.type "enumerate", .ref tp], []⟩) (fun _ R s => s.heap.get? tp = some { cls := .type "tuple", dict := dc, data := .seq cells cap, slots := osl } ∧
      R (.ok (.ret (.ref (s.heap.push (tupWalker tp)).objs.size))) { s with heap := (s.heap.push (tupWalker tp)).push (counter s.heap.objs.size) }) := by
  refine .of_wp fun prog w A R s pre => ?_
  obtain ⟨hp, glo, dep, tk, os⟩ := s
  obtain ⟨at_, goal⟩ := pre
  have isSub := sub_enumerate
  have isTup : Heap.IsTuple (Shared.heap ⟨hp, glo, dep, tk, os⟩) tp cells := ⟨_, at_, rfl, cap, rfl⟩
  wp_walk using AutoSeq1.wpAny_loadPart' at_
  refine wpAny_stack_any (fun _ => wpAny_pure ?_)
  split
  case h_1 cl _ _ _ _ _ =>
    generalize (cl == Value.type "enumerate") = same
    cases same <;> (wp_walk using AutoSeq1.wpAny_loadPart' at_, wpAny_pyIter_tuple isTup; exact ⟨_, rfl, goal⟩)
  case h_2 =>
    wp_walk using AutoSeq1.wpAny_loadPart' at_, wpAny_pyIter_tuple isTup
    exact ⟨_, rfl, goal⟩
/-- what stands behind enumerate(tuple): two new objects, all else as it was -/
structure Laid (old new : Heap) (tp : Addr) : Prop where
  cnt : IsEnum new (old.objs.size + 1) old.objs.size 0 .none
  wlk : new.IsTupleIter old.objs.size tp 0
  kept : ∀ b o, old.get? b = some o → new.get? b = some o
theorem laid_mk (old : Heap) (tp : Addr) : Laid old ((old.push (tupWalker tp)).push (counter old.objs.size)) tp := by
  have size1 : (old.push (tupWalker tp)).objs.size = old.objs.size + 1 := Heap.size_push ..
  have last := Heap.get?_push_size (old.push (tupWalker tp)) (o := counter old.objs.size) rfl
  rw [size1] at last
  exact ⟨last, ⟨tupWalker tp, Heap.get?_push_of_some _ (Heap.get?_push_size _ rfl), rfl, rfl⟩, fun b o q => Heap.get?_push_of_some _ (Heap.get?_push_of_some _ q)⟩
theorem call_enumT {prog : Program} {w : World} {A : Around} {E Q : Value → Shared → Prop} {s : Shared} {tp : Addr} {cells : Array Value} (isTup : s.heap.IsTuple tp cells)
    (next : ∀ new, Laid s.heap new tp → Q (.ref (s.heap.objs.size + 1)) { s with heap := new }) : wpAny (model prog w) A (call (.type "enumerate") [.ref tp]) Q E s := by
  obtain ⟨⟨cl, dc, dat, osl⟩, at_, isT, cap, isSeq⟩ := isTup
  have e1 : cl = .type "tuple" := isT
  have e2 : dat = .seq cells cap := isSeq
  subst e1
  subst e2
  have made := laid_mk s.heap tp
  have size1 : (s.heap.push (tupWalker tp)).objs.size = s.heap.objs.size + 1 := Heap.size_push ..
  refine callType_new F.called_enumerate (by decide) (F.typeCall_enumerate_1 _) (F.newCall_enumerate_1 _) (fun ob => F.args_object_init_2 ob _) F.entry_enumerate_new (new_enumT tp cells cap dc osl) (And.intro at_ ?_)
  have e3 : Value.ref (s.heap.push (tupWalker tp)).objs.size = .ref (s.heap.objs.size + 1) := by rw [size1]
  show _ ∧ _
  rw [e3]
  exact And.intro ⟨_, made.cnt, rfl⟩ (next _ made)
/-- the tuple at tp: its items, each in a new pair behind its place -/
def IteT (K : PySem.W.Frag) (tp : Addr) : It :=
  ⟨fun i H => ∃ (xs : List V) (x : V), SqT K H tp xs ∧ xs[i]? = some x, fun i H v H' => ∃ pr x, v = .ref pr ∧ H pr = none ∧ H' = upd H pr (.tup [.int (i : Nat), x]) ∧ ∀ xs, SqT K H tp xs → xs[i]? = some x, fun i H => ∃ xs : List V, SqT K H tp xs ∧ xs.length ≤ i⟩
/-- how the two objects stand ahead of turn i -/
def StandsT (tp cn wk : Addr) (i : Nat) (hp : Heap) : Prop := (∃ old, IsEnum hp cn wk ((i : Nat) : Int) old) ∧ hp.IsTupleIter wk tp i ∧ cn ≠ wk ∧ tp ≠ cn ∧ tp ≠ wk
theorem two {b x y : Addr} {P : Addr → Prop} (hb : b ∈ [x, y]) (px : P x) (py : P y) : P b := by
  rcases List.mem_cons.mp hb with same | same
  · exact same ▸ px
  · exact (List.mem_singleton.mp same) ▸ py
theorem turn_enumT {P : Program} {w : World} {K : PySem.W.Frag} {elts : List Expr} {kk : Nat} {tpos : Pos} (tp cn wk : Addr) : Turn P w K (.Tuple elts kk tpos) (IteT K tp) [cn, wk] cn (StandsT tp cn wk) where
  mem := List.mem_cons_self ..
  obj := by
    intro i hp st b hb
    obtain ⟨⟨_, isE⟩, ⟨o, at_, _, dat⟩, _⟩ := st
    exact two (P := fun b => ∃ o, hp.get? b = some o ∧ ∀ v, o.data ≠ .cell v) hb ⟨_, isE, fun _ q => nomatch q⟩ ⟨o, at_, fun v q => by rw [dat] at q; cases q⟩
  keep := by
    intro i hp hp' st same
    obtain ⟨⟨old, isE⟩, isI, far⟩ := st
    exact ⟨⟨old, same cn (List.mem_cons_self ..) _ isE⟩, isI.at fun o q => same wk (List.mem_cons_of_mem _ (List.mem_singleton.mpr rfl)) o q, far⟩
  item := by
    intro X eP ew eK calm i pins s σ H E I free st here
    subst eP ew eK
    obtain ⟨⟨old, isE⟩, isI, ne1, ne2, ne3⟩ := st
    obtain ⟨xs, x, isT, atx⟩ := here
    obtain ⟨cells, rel, isTup, _⟩ := I.tuple isT
    obtain ⟨u, atu, ru⟩ := rel.get atx
    have low : i < cells.toArray.size := by
      rw [List.size_toArray]
      exact (List.getElem?_eq_some_iff.mp atu).1
    have inCn : cn < s.heap.objs.size := Heap.lt_size isE
    have inWk : wk < s.heap.objs.size := let ⟨_, q, _⟩ := isI; Heap.lt_size q
    have far : cn ∉ [wk, tp] := fun z => by
      rcases List.mem_cons.mp z with one | one
      · exact ne1 one
      · exact ne2 (List.mem_singleton.mp one).symm
    have quiet : X.A.in1.handled = none := I.ok.hd calm
    refine wpAny_pyNext_enum_itemD (Draws.tuple (prog := X.prog) (w := X.w) quiet wk tp ne3 cells.toArray) isE ⟨isI, isTup⟩ low ne1 far fun v hp1 tk isv out st1 pair _ same => ?_
    have ev : v = u := by
      have q : cells.toArray[i]? = some v := isv
      rw [List.getElem?_toArray, atu] at q
      cases q
      rfl
    subst ev
    refine ⟨_, rfl, wpAny_letOwnedTupleGo_enum (s := { s with heap := hp1, toks := tk + 1 }) out fun hp2 isE2 but => ?_⟩
    have pair2 : hp2.get? s.heap.objs.size = some { cls := .type "tuple", data := .seq #[.int i tk, v] } := (but.2 _ (Nat.ne_of_gt inCn)).trans pair
    have fine : ObjOk X.prog X.w (upd H s.heap.objs.size (.tup [.int (i : Nat), x])) hp2 s.heap.objs.size (.tup [.int (i : Nat), x]) :=
      And.intro (show 2 ≤ sizeLine by decide) ⟨[.int i tk, v], .cons ⟨_, rfl⟩ (.cons ru .nil), _, pair2, rfl, _, rfl⟩
    have still : ∀ b ob, b ∉ [cn, wk] → s.heap.get? b = some ob → hp2.get? b = some ob := fun b ob nb q => by
      have n1 : b ≠ cn := fun z => nb (z ▸ List.mem_cons_self ..)
      have n2 : b ≠ wk := fun z => nb (z ▸ List.mem_cons_of_mem _ (List.mem_singleton.mpr rfl))
      rw [but.2 b n1]
      exact same b ob n1 n2 q
    have J := I.turnedNew (ch := [cn, wk]) (t' := tk + 1) still free (Nat.le_refl s.heap.objs.size) fine
    have up : (i : Int) + 1 = ((i + 1 : Nat) : Int) := (Int.natCast_succ i).symm
    rw [up] at isE2
    refine ⟨.ref s.heap.objs.size, _, J, rfl, ⟨_, x, rfl, I.hok.fresh (Nat.le_refl _), rfl, fun ys isY => ?_⟩, ⟨⟨v, isE2⟩, st1.1.at fun o q => (but.2 wk ne1.symm).trans q, ne1, ne2, ne3⟩, fun b hb => ?_⟩
    · rw [I.tuple_inj isY isT]
      exact atx
    · have inB : b < s.heap.objs.size := two (P := fun b => b < s.heap.objs.size) hb inCn inWk
      rw [upd_ne (Nat.ne_of_lt inB)]
      exact (free b hb).1
  done := by
    intro X eP ew eK calm i pins s σ H E I free st over
    subst eP ew eK
    obtain ⟨⟨old, isE⟩, isI, ne1, ne2, ne3⟩ := st
    obtain ⟨xs, isT, short⟩ := over
    obtain ⟨cells, rel, isTup, _⟩ := I.tuple isT
    obtain ⟨g0, g1, g2, g3, g4, g5⟩ := free wk (List.mem_cons_of_mem _ (List.mem_singleton.mpr rfl))
    have many : cells.toArray.size ≤ i := by
      rw [List.size_toArray, ← rel.length]
      exact short
    have quiet : X.A.in1.handled = none := I.ok.hd calm
    have D : Draws X.prog X.w X.A.in1 wk [wk, tp] i (fun _ _ => False) (fun j hp => j = i ∧ hp.IsTupleIter wk tp i ∧ hp.IsTuple tp cells.toArray) :=
      { live := fun _ _ q => let ⟨o, z, _⟩ := q.2.1; ⟨o, z⟩
        frame := fun _ _ _ q same => ⟨q.1, q.2.1.at fun o z => same wk (List.mem_cons_self ..) o z, q.2.2.at fun o z => same tp (List.mem_cons_of_mem _ (List.mem_singleton.mpr rfl)) o z⟩
        item := fun _ _ _ _ less q _ => absurd q.1 (Nat.ne_of_lt less)
        done := fun _ _ _ q ends => wpAny_nextOf_tuple_end quiet q.2.1 q.2.2 (Array.getElem?_eq_none many) ends }
    exact wpAny_pyNext_enum_endD D isE ⟨rfl, isI, isTup⟩ fun hp1 ext => ⟨rfl, I.turned (t' := s.toks) (fun b o nb q => ext b o nb q) g0 g1 g3 g4 g5⟩
  self := by
    intro A i s Q E st q
    obtain ⟨⟨_, isE⟩, _⟩ := st
    exact wpAny_pyIter_enum isE q
def iEnumT (K : PySem.W.Frag) (ta : TA) : TI := fun σ H R => ta σ H fun vs H1 => ∃ tp xs, vs = [.ref tp] ∧ SqT K H1 tp xs ∧ R (IteT K tp) H1
theorem pi_enumT {X : Cx} {e : Expr} {ta : TA} {p pos tpos : Pos} {elts : List Expr} {kk : Nat} (glob : Gl X "enumerate") (none_ : X.mg "enumerate" = none) (arg : PA X [e] ta) (star : starEach [e] X.env = [(false, eval e X.env)] := by rfl) :
    PI X (.Tuple elts kk tpos) (.Call (.Name "enumerate" p) [e] [] pos) (iEnumT X.K ta) := by
  constructor
  intro pins s σ H R I q0
  have given := arg.run pos pins s σ H _ I q0
  refine Call_ (ld_blt I glob none_ boot_enumerate (callWith_type1 (thn given fun us s1 got => ?_) star rfl))
  obtain ⟨vs, H1, J, rel, tp, xs, isOne, isT, q1⟩ := got
  subst isOne
  obtain ⟨u, isU, ru⟩ := vals1 rel
  subst isU
  cases (show u = Value.ref tp from ru)
  obtain ⟨cells, _, isTup, _⟩ := J.tuple isT
  have inTp : tp < s1.heap.objs.size := let ⟨_, at_, _⟩ := (show s1.heap.IsTuple tp cells.toArray from isTup); Heap.lt_size at_
  refine call_enumT isTup fun new made => wpAny_pyIter_enum made.cnt ?_
  have J2 : Inv X pins σ H1 { s1 with heap := new } := J.kept (t' := s1.toks) made.kept
  have stands : StandsT tp (s1.heap.objs.size + 1) s1.heap.objs.size 0 new := ⟨⟨.none, made.cnt⟩, made.wlk, Nat.succ_ne_self _, Nat.ne_of_lt (Nat.lt_succ_of_lt inTp), Nat.ne_of_lt inTp⟩
  refine ⟨s1.heap.objs.size + 1, [s1.heap.objs.size + 1, s1.heap.objs.size], _, _, H1, rfl, J2, turn_enumT tp _ _, stands, fun b hb => ?_, q1⟩
  have late : s1.heap.objs.size ≤ b := two (P := fun b => s1.heap.objs.size ≤ b) hb (Nat.le_succ _) (Nat.le_refl _)
  exact J.fpOk late (J.hok.fresh late)
end Dw
end
section
namespace Dw
open PySem PySem.Spec PyProof.Rows L2
/-! ### repr of data, where nothing is being shown around -/
/-! ### ** of a base that op_pow does not take -/
theorem op_powG {b e : Int} (h0 : 0 < e) (h1 : 1 < b) (hz : Builtin.Int.intTooBig (((Builtin.Int.intBits b : Nat) : Int) * e) = false) {X : Cx} :
    OpR X (binaryOp .Pow) (fun x y H Q => x = .int b ∧ y = .int e ∧ Q (.int (b ^ e.toNat)) H) := by
  intro pins s σ H x y v u Q I rx ry h
  obtain ⟨rfl, rfl, q⟩ := h
  obtain ⟨t1, rfl⟩ := (show ∃ t, v = Value.int b t from rx)
  obtain ⟨t2, rfl⟩ := (show ∃ t, u = Value.int e t from ry)
  refine AutoIntOps.pow_4 (by omega) (by simp; omega) (by simp; omega) (by simp; omega) (by rw [hz]; decide) ?_
  exact ⟨.int (b ^ e.toNat), H, I.tok _, ⟨_, rfl⟩, q⟩
end Dw
end
section
/-! the law's own def, entered from the caller's place itself (so that it is known there that nothing is being shown) -/
namespace Dw
open PySem PySem.Spec PyProof.Rows L2
/-- a def of one parameter, entered at a told place A -/
theorem enter1 {P : Program} {w : World} {K : PySem.W.Frag} {mg : Str → Option Value} {base : Heap} {k : Nat} {x qual : Str} {st : Stmt} {f : Addr} {fd : FuncData} {N : List Str} {A : Around} {outer : List Env} {s : Shared} {H : Hp} {v : V} {u : Value} {Q : VK}
    (F : Fun K qual qual st f fd) (S : FnScope N [x] (defScope st)) (bd : BindsTo s fd ⟨[u], []⟩ [(x, u)]) (room : Room (k + 1) A) (e0 : Env0 P w K mg base A outer s H) (rv : RelV v u)
    (body : ∀ cdv : Value, ∃ t, PSs (cxOf CX0 P w K mg base N qual (defScope st) f cdv A outer s H E0).nox (defBody st) t ∧ t { nx := fun _ H' => Q .non H', rt := Q } (start N [v]) H) :
    codeAny (model P w) A (.call (.ref f) ⟨[u], []⟩) (CR CX0 outer P w H s Q E0) s := by
  obtain ⟨oc, od, kV, doc, pm, an, cdv, ct, osl, efd, look, code⟩ := F.ex
  subst efd
  obtain ⟨t, der, rd⟩ := body cdv
  have kept : ∀ b o, base.get? b = some o → s.heap.get? b = some o := fun b o e => (e0.bs b o e).1
  have inK : K.In s.heap := e0.mod.kin.keeps kept
  refine codeAny_call_function room.depth (inK f _ look) rfl S.co S.gen rfl (PySem.W.codeRec_of inK code) (bd _ _ _ _ ?_)
  have kinds : ∀ y ∈ [(x, u)], (defScope st).names.lookup y.1 = some .local ∨ ((defScope st).names.lookup y.1 = some .cell ∧ ((cellsFrom (s.heap.objs.size + 1) (defScope st).names []).lookup y.1).isSome = true) := by
    intro y hy
    rw [List.mem_singleton.mp hy]
    cases S.par x (List.mem_singleton.mpr rfl) with
    | inl one => exact Or.inl one
    | inr one => exact Or.inr ⟨one, PySem.W.cellsFrom_some _ _ _ (Or.inl one)⟩
  refine wpAny_newFunctionEnv_cells S.kind kinds (fun env isEnv s1 ic => ?_)
  subst isEnv
  have noLim : s.heap.NoLimit := e0.mod.nolimit.keeps kept
  refine ⟨noLim.keeps ic.toInCall.keep, codeAny_func ?_⟩
  have start0 : Inv (cxOf CX0 P w K mg base N qual (defScope st) f cdv A outer s H E0) [] (start N [v]) H s1 := inv_start S room.hd e0 rfl (.cons rv .nil) ic
  refine wpAny_mono (der.nox.run [] s1 (start N [v]) H _ start0 rd) (fun flow s2 done => ?_) (fun _ _ bad => bad)
  match flow, done with
  | .next, ⟨_, H2, inv, q⟩ => exact ⟨.non, H2, inv.os, inv.bare, inv.base, inv.hok, rfl, q⟩
  | .ret _, ⟨v2, _, H2, inv, rel, q⟩ => exact ⟨v2, H2, inv.os, inv.bare, inv.base, inv.hok, rel, q⟩
  | .brk, ⟨_, _, _, q⟩ => exact q.elim
  | .cont, ⟨_, _, _, q⟩ => exact q.elim
/-- how the script stands ahead of the law: tracked as locked, or one of the written part's own -/
def scriptHp (K : PySem.W.Frag) (a : Addr) (ob : Obj) (ns : List Int) : Hp := fun b => if b = a ∧ K.lookup a = none then some (.frz ob (.lst (ns.map V.int))) else none
section
variable {K : PySem.W.Frag} {a : Addr} {ob : Obj} {ns : List Int}
theorem scriptHp_some {b : Addr} {u : HO} (h : scriptHp K a ob ns b = some u) : b = a ∧ K.lookup a = none ∧ u = .frz ob (.lst (ns.map V.int)) := by
  unfold scriptHp at h
  split at h
  · rename_i c
    exact ⟨c.1, c.2, (Option.some.inj h).symm⟩
  · cases h
theorem scriptHp_at (h : K.lookup a = none) : scriptHp K a ob ns a = some (.frz ob (.lst (ns.map V.int))) := if_pos ⟨rfl, h⟩
theorem scriptHp_no {b : Addr} (h : b ≠ a) : scriptHp K a ob ns b = none := if_neg fun c => h c.1
end
/-- the end of a law row whose def is walked from the caller's place -/
theorem walkG {l : PySem.W.OpenLaw} {n k : Nat} {q : Program} {loose : List Str} {XP : (Str → Option Value) → Heap → Prop} {YP : World → Heap → Prop} {d : DefRec} {K : Params → PySem.W.Frag} {x : Str}
    (hn : l.most = some n) (hn2 : n ≤ sizeLine) (hdf : d.params.defaults = []) (room : Room (k + 1) callerA) (hY : ∀ (w : World) (h : Heap), YP w h → (K w.params).In h)
    (F : ∀ (w : World) (mg : Str → Option Value) (fa : Addr) (h : Heap),
      (K w.params).In h → h.Ns mainGlobals mg → mg d.name = some (.ref fa) →
      ∃ (fd : FuncData) (st : Stmt) (N : List Str), Fun (K w.params) d.name d.name st fa fd ∧ FnScope N [x] (defScope st) ∧ (∀ (s : Shared) (u : Value), BindsTo s fd ⟨[u], []⟩ [(x, u)]) ∧
        ∀ (base : Heap) (s : Shared) (H : Hp) (cdv : Value) (a : Addr) (ns : List Int), (K w.params).In base → base.Ns mainGlobals mg → ns.length ≤ n → SqL (K w.params) H a (ns.map V.int) →
          ∃ t, PSs (cxOf CX0 l.prog w (K w.params) mg base N d.name (defScope st) fa cdv callerA [] s H E0).nox (defBody st) t ∧ t { nx := fun _ _ => False, rt := fun v _ => v = .bl true } (start N [.ref a]) H) :
    PySem.W.WalkO q loose XP YP l.row.toRowW d [] (fun g us => PySem.call g us) := by
  refine Att.attach_call hn hdf (fun w _ s mg mb fa _ _ _ _ a vs ns G Y _ _ _ gl isL nums len gens => ?_)
  have inK := hY w s.heap Y
  obtain ⟨fd, st, N, Fn, S, bd, body⟩ := F w mg fa s.heap inK G.T.g gl
  let H : Hp := scriptHp (K w.params) a { cls := .type "list", data := .seq vs.toArray } ns
  have rel : Vals (ns.map V.int) vs := vals_ints nums
  have small : vs.length ≤ sizeLine := by rw [nums.length]; exact Nat.le_trans len hn2
  have okH : HOk l.prog w H s.heap := by
    intro b u e
    obtain ⟨rfl, _, rfl⟩ := scriptHp_some e
    exact ⟨isL, by rw [List.length_map]; exact Nat.le_trans len hn2, vs, _, rel, isL⟩
  have seq : SqL (K w.params) H a (ns.map V.int) := by
    cases lk : (K w.params).lookup a with
    | none => exact Or.inl (Or.inr ⟨_, scriptHp_at lk⟩)
    | some o =>
      have same : o = { cls := .type "list", data := .seq vs.toArray } := Option.some.inj ((inK a o lk).symm.trans isL)
      exact Or.inr ⟨o, vs.toArray, _, lk, by rw [same], by rw [same], by rw [same], by rw [List.size_toArray]; exact small, by simpa using rel⟩
  have freeK : ∀ b o, (K w.params).lookup b = some o → H b = none := by
    intro b o e
    by_cases hb : b = a
    · subst hb
      exact if_neg fun c => by rw [c.2] at e; cases e
    · exact scriptHp_no hb
  have freeD : ∀ b o es ep, s.heap.get? b = some o → o.data = .dict es ep → H b = none := by
    intro b o es ep e dat
    by_cases hb : b = a
    · subst hb
      rw [isL] at e
      cases e
      cases dat
    · exact scriptHp_no hb
  have names : ∀ b m, s.heap.Ns b m → (hidT s.heap H).Ns b m := fun b m ⟨o, es, ep, e, dat, r⟩ => ⟨o, es, ep, hidT_get e (freeD b o es ep e dat), dat, r⟩
  have inB : (K w.params).In (hidT s.heap H) := fun b o e => hidT_get (inK b o e) (freeK b o e)
  have noL : (hidT s.heap H).NoLimit := by
    obtain ⟨mc, c1, c2⟩ := G.T.nolimit
    exact ⟨mc, names _ _ c1, c2⟩
  have e0 : Env0 l.prog w (K w.params) mg (hidT s.heap H) callerA [] s H :=
    { frames := rfl, mod := ⟨inB, names _ _ G.T.g, ⟨mb, names _ _ G.T.b, G.T.builtins⟩, noL⟩, bs := fun b o e => of_hidT e, bsz := Nat.le_of_eq (hidT_size _ _), funs := trivial, frf := fun b hb => absurd (show b ∈ ([] : List Addr) from hb) (by simp), hok := okH, bare := .of_eq gens }
  have run := enter1 (P := l.prog) (v := .ref a) (Q := fun v _ => v = .bl true) Fn S (bd s (.ref a)) room e0 rfl (fun cdv => by
    obtain ⟨t, t1, t2⟩ := body (hidT s.heap H) s H cdv a ns inB (names _ _ G.T.g) len seq
    refine ⟨t, t1, ?_⟩
    have no : (fun (_ : L2.St) (_ : Hp) => (V.non = V.bl true)) = fun _ _ => False := by
      funext _ _
      exact propext ⟨fun z => V.noConfusion z, False.elim⟩
    show t { nx := fun (_ : L2.St) (_ : Hp) => V.non = V.bl true, rt := fun v _ => v = .bl true } (start N [.ref a]) H
    rw [no]
    exact t2)
  refine codeAny_mono run (fun r s2 done => ?_)
  match r, done with
  | .error _, bad => exact bad.elim
  | .ok .next, bad => exact bad.elim
  | .ok .brk, bad => exact bad.elim
  | .ok .cont, bad => exact bad.elim
  | .ok (.ret _), ⟨_, H2, os, bare, un, ok2, rr, isT⟩ =>
    subst isT
    cases (show _ = Value.bool true from rr)
    refine ⟨rfl, OldK.of_keep (fun b o e => ?_), os, bare⟩
    cases tr : H b with
    | none => exact un.keep b o e tr (fun z => absurd (show b ∈ ([] : List Addr) from z) (by simp)) (by simp)
    | some u =>
      obtain ⟨hb, _, hu⟩ := scriptHp_some tr
      subst hb hu
      have still := un.frzs _ _ _ tr
      rw [isL] at e
      cases e
      exact (ok2 _ _ still).1
end Dw
end
section
/-! what a reading evaluates to: more words over Evl; tuples of natural numbers; defs by their names -/
namespace Dw
open PySem PySem.Spec PyProof.Rows L2 Evl
/-! ### defs by their names -/
/-- a def of the text behind the top, all of its parameters without defaults -/
structure Df (K : PySem.W.Frag) (mg : Str → Option Value) (x : Str) (st : Stmt) (ps : List Str) : Prop where
  ex : ∃ (f : Addr) (fd : FuncData), Fun K x x st f fd ∧ mg x = some (.ref f) ∧ Binds K fd ps []
/-- a def that keeps a promise -/
structure Cl (P : Program) (w : World) (K : PySem.W.Frag) (mg : Str → Option Value) (base : Heap) (k : Nat) (x : Str) (sp : Sp) : Prop where
  ex : ∃ (f : Addr) (fd : FuncData) (ps : List Str), FnOk P w K mg base CX0 k f fd ps sp ∧ mg x = some (.ref f) ∧ PySem.W.keepIn K (.ref f) = true ∧ Binds K fd ps []
theorem cl_of {P : Program} {w : World} {K : PySem.W.Frag} {mg : Str → Option Value} {base : Heap} {x : Str} {st : Stmt} {N ps : List Str} {k : Nat} {sp : Sp} (D : Df K mg x st ps) (S : FnScope N ps (defScope st)) (len : ∀ vs H Q E, sp vs H Q E → vs.length = ps.length)
    (body : ∀ (f : Addr) (cdv : Value) (A : Around) (outer : List Env) (s : Shared) (H : Hp) (vs : List V) (Q : VK) (E : XK), Room k (A.deeper (envOfC x (defScope st) s.heap.objs.size f cdv)) → sp vs H Q E →
      ∃ t, PSs (cxOf CX0 P w K mg base N x (defScope st) f cdv A outer s H E).nox (defBody st) t ∧ t { nx := fun _ H' => Q .non H', rt := Q } (start N vs) H) : Cl P w K mg base (k + 1) x sp := by
  obtain ⟨f, fd, F, m, b⟩ := D.ex
  exact ⟨f, fd, ps, F.ok S len (fun cdv A outer s H vs Q E hr h => body f cdv A outer s H vs Q E hr h), m, F.kp, b⟩
theorem pe_cl {X : Cx} {k j : Nat} {x : Str} {sp : Sp} {p pos : Pos} {e : Expr} {es : List Expr} {t : TA} (c : Cl X.prog X.w X.K X.mg X.base k x sp) (hr : Room j X.A) (hk : k ≤ j) (hg : Gl X x) (ha : PA X (e :: es) t)
    (dbg : (x == ("__debug__" : Str)) = false := by decide) (str : starEach (e :: es) X.env = (false, eval e X.env) :: starEach es X.env := by rfl) (bck : (backTo pos (starEach es X.env)).any (·.1) = false := by rfl) :
    PE X (.Call (.Name x p) (e :: es) [] pos) (tCall sp [] E0 t) := by
  obtain ⟨f, fd, ps, F, m, kp, b⟩ := c.ex
  exact pe_call F (hr.mono hk) hg m kp b .nil pass0 ha dbg str bck
/-- a pure promise: of some a what must hold, and what comes back, all that stood left as it was -/
def spX {α : Type} (pre : α → List V → Hp → Prop) (post : α → V → Hp → Prop) : Sp := fun vs H Q _ => ∃ a, pre a vs H ∧ ∀ v H', Ex H H' → post a v H' → Q v H'
/-! ### values of any kind, by what holds of them -/
def EvP (te : TE) (σ : L2.St) (H : Hp) (P : V → Hp → Prop) : Prop := ∀ H1, Ex H H1 → ∀ Q : VK, (∀ v H2, Ex H1 H2 → P v H2 → Q v H2) → te σ H1 Q
section
variable {K : PySem.W.Frag} {σ : L2.St} {H H' : Hp} {ta tb te : TE} {x y z v : V} {P : V → Hp → Prop}
theorem EvP.mono (e : Ex H H') (h : EvP te σ H P) : EvP te σ H' P := fun H1 a Q q => h H1 (e.trans a) Q q
theorem EvP.imp {P' : V → Hp → Prop} (h : EvP te σ H P) (i : ∀ v H', Ex H H' → P v H' → P' v H') : EvP te σ H P' := fun H1 e Q q => h H1 e Q fun v H2 e2 p => q v H2 e2 (i v H2 (e.trans e2) p)
theorem ep_ev (h : Ev te σ H v) (p : ∀ H', Ex H H' → P v H') : EvP te σ H P := fun H1 e Q q => h H1 e Q fun H2 e2 => q v H2 e2 (p H2 (e.trans e2))
theorem ev_ep (h : EvP te σ H fun u _ => u = v) : Ev te σ H v := fun H1 e Q q => h H1 e Q fun u H2 e2 p => by subst p; exact q H2 e2
/-- a call by a pure promise -/
theorem ep_call {α : Type} {pre : α → List V → Hp → Prop} {post : α → V → Hp → Prop} (a : α) {vs : List V} {E : XK} {ta : TA} (h : EvA ta σ H vs) (hp : ∀ H1, Ex H H1 → pre a vs H1) : EvP (tCall (spX pre post) [] E ta) σ H (post a) := fun H1 e Q q =>
  h H1 e _ fun H2 e2 => by
    rw [List.append_nil]
    exact ⟨a, hp H2 (e.trans e2), fun v H3 e3 p => q v H3 (e2.trans e3) p⟩
theorem ev_callV {α : Type} {pre : α → List V → Hp → Prop} {post : α → V → Hp → Prop} (a : α) {vs : List V} {E : XK} {ta : TA} (h : EvA ta σ H vs) (hp : ∀ H1, Ex H H1 → pre a vs H1) (hv : ∀ u H', post a u H' → u = v) : Ev (tCall (spX pre post) [] E ta) σ H v :=
  ev_ep ((ep_call a h hp).imp fun u H' _ p => hv u H' p)
/-! isinstance -/
theorem ev_isi {c : V} {t u : Value} {b : Bool} (ha : Ev ta σ H x) (hc : Ev tb σ H c) (k : ClsV c u) (ty : ∀ H1, Ex H H1 → TyX K H1 x t) (e : PySem.W.kitOne K t u = some b) : Ev (tCB (rIsi K) (tCons ta (tCons tb tNil))) σ H (.bl b) := fun H1 e1 Q q =>
  ha H1 e1 _ fun H2 e2 => hc H2 (e1.trans e2) _ fun H3 e3 => ⟨x, c, t, u, b, rfl, k, ty H3 ((e1.trans e2).trans e3), e, q H3 (e2.trans e3)⟩
theorem tyx_int (i : Int) : TyX K H (.int i) (.type "int") := .base (.int i)
theorem tyx_str (s : Str) : TyX K H (.str s) (.type "str") := .base (.str s)
theorem tyx_bl (b : Bool) : TyX K H (.bl b) (.type "bool") := .base (.bl b)
theorem tyx_non : TyX K H .non (.type "NoneType") := .base .non
theorem tyx_tup {a : Addr} {xs : List V} (h : SqT K H a xs) : TyX K H (.ref a) (.type "tuple") := by
  rcases h with (h | ⟨o, h⟩) | ⟨o, its, n, lk, c, _⟩
  · exact .base (.tup h)
  · exact .fTuple h
  · exact .kTuple lk c
theorem kit_tt : PySem.W.kitOne K (.type "tuple") (.type "tuple") = some true := kit_ty (by decide +kernel)
theorem kit_ii : PySem.W.kitOne K (.type "int") (.type "int") = some true := kit_ty (by decide +kernel)
theorem kit_ib : PySem.W.kitOne K (.type "int") (.type "bool") = some false := kit_ty (by decide +kernel)
theorem kit_ss : PySem.W.kitOne K (.type "str") (.type "str") = some true := kit_ty (by decide +kernel)
/-! len -/
theorem ev_lenT {p : Addr} {xs : List V} (ha : Ev ta σ H (.ref p)) (h : SqT K H p xs) : Ev (tCB (rLenS K) (tCons ta tNil)) σ H (.int (xs.length : Int)) := fun H1 e Q q =>
  ha H1 e _ fun H2 e2 => ⟨p, xs, rfl, Or.inr (ex_t (e.trans e2) h), q H2 e2⟩
def rLenTx : List V → Hp → VK → Prop := fun xs H Q => ∃ z, xs = [.str z] ∧ z.length ≤ sizeLine ∧ Q (.int z.length) H
theorem ev_lenS {z : Str} (ha : Ev ta σ H (.str z)) (h : z.length ≤ 100000) : Ev (tCB rLenTx (tCons ta tNil)) σ H (.int (z.length : Int)) := fun H1 e Q q =>
  ha H1 e _ fun H2 e2 => ⟨z, rfl, sz_of h, q H2 e2⟩
/-- a < b < c and the like -/
theorem ev_chain {r r' : R2} {tc : TE} {x y z : V} {a b : Bool} (ha : Ev ta σ H x) (hb : Ev tb σ H y) (hc : a = true → Ev tc σ H z) (h1 : RV r x y H (.bl a)) (h2 : a = true → RV r' y z H (.bl b)) : Ev (tChain r r' ta tb tc) σ H (.bl (a && b)) := fun H1 e Q q =>
  ha H1 e _ fun H2 e2 => hb H2 (e.trans e2) _ fun H3 e3 => h1 H3 ((e.trans e2).trans e3) _ fun H4 e4 => ⟨a, rfl, by
    have e14 := (e2.trans e3).trans e4
    cases a with
    | true =>
      show tc σ H4 _
      refine hc rfl H4 (e.trans e14) _ fun H5 e5 => ?_
      exact h2 rfl H5 ((e.trans e14).trans e5) Q fun H6 e6 => q H6 ((e14.trans e5).trans e6)
    | false =>
      show Q (.bl false) H4
      exact q H4 e14⟩
theorem et_val {b : Bool} (h : Ev te σ H (.bl b)) : EvT (tB te) σ H b := et_B h
theorem et_isN {x : V} (h : Ev ta σ H x) : EvT (tTest (tOp (fun x y H Q => y = .non ∧ Q (.bl (!decide (x = .non))) H) ta (tC .non))) σ H (!decide (x = .non)) := fun H1 e Q q =>
  h H1 e _ fun H2 e2 => ⟨rfl, _, rfl, q H2 e2⟩
end
/-! ### tuples of natural numbers -/
abbrev vi (k : Nat) : V := .int (k : Int)
theorem atI_vi {xs : List V} {k : Nat} {v : V} (h : xs[k]? = some v) : atI xs (k : Int) = some v := atI_nat h
/-- all tuples that stood stand (lists may have changed) -/
def ET (K : PySem.W.Frag) (H H' : Hp) : Prop := ∀ a xs, SqT K H a xs → SqT K H' a xs
theorem ET.refl {K : PySem.W.Frag} {H : Hp} : ET K H H := fun _ _ h => h
theorem ET.trans {K : PySem.W.Frag} {H H1 H2 : Hp} (a : ET K H H1) (b : ET K H1 H2) : ET K H H2 := fun p xs h => b p xs (a p xs h)
theorem Ex.et {K : PySem.W.Frag} {H H' : Hp} (e : Evl.Ex H H') : ET K H H' := fun _ _ h => ex_t e h
theorem ET.upd {K : PySem.W.Frag} {H H' : Hp} {l : Addr} {xs ys : List V} (e : ET K H H') (h : H' l = some (.lst xs)) : ET K H (upd H' l (.lst ys)) := fun a zs q => by
  rcases e a zs q with (q | ⟨o, q⟩) | q
  · have ne : a ≠ l := fun z => by rw [z, h] at q; cases q
    exact .inl (.inl (by rw [upd_ne ne]; exact q))
  · have ne : a ≠ l := fun z => by rw [z, h] at q; cases q
    exact .inl (.inr ⟨o, by rw [upd_ne ne]; exact q⟩)
  · exact .inr q
def Nats (K : PySem.W.Frag) (H : Hp) (v : V) (ns : List Nat) : Prop := ∃ a, v = .ref a ∧ SqT K H a (ns.map vi)
theorem Nats.et {K : PySem.W.Frag} {H H' : Hp} {v : V} {ns : List Nat} (e : ET K H H') (h : Nats K H v ns) : Nats K H' v ns := let ⟨a, q, s⟩ := h; ⟨a, q, e _ _ s⟩
theorem Nats.ex {K : PySem.W.Frag} {H H' : Hp} {v : V} {ns : List Nat} (e : Evl.Ex H H') (h : Nats K H v ns) : Nats K H' v ns := h.et (Dw.Ex.et e)
theorem paired_imp {α β : Type} {R S : α → β → Prop} (h : ∀ a b, R a b → S a b) : ∀ {xs : List α} {ys : List β}, Paired R xs ys → Paired S xs ys
  | _, _, .nil => .nil
  | _, _, .cons a b => .cons (h _ _ a) (paired_imp h b)
theorem paired_get {α β : Type} {R : α → β → Prop} : ∀ {xs : List α} {ys : List β} {i : Nat} {y : β}, Paired R xs ys → ys[i]? = some y → ∃ x, xs[i]? = some x ∧ R x y
  | _, _, _, _, .nil, h => by simp at h
  | _, _, 0, _, .cons a _, h => by
    have e := Option.some.inj h
    subst e
    exact ⟨_, rfl, a⟩
  | _, _, i + 1, y, .cons _ b, h => by
    obtain ⟨x, e, r⟩ := paired_get (i := i) b h
    exact ⟨x, e, r⟩
theorem paired_len {α β : Type} {R : α → β → Prop} : ∀ {xs : List α} {ys : List β}, Paired R xs ys → xs.length = ys.length
  | _, _, .nil => rfl
  | _, _, .cons _ b => congrArg (· + 1) (paired_len b)
theorem paired_snoc {α β : Type} {R : α → β → Prop} {x : α} {y : β} (r : R x y) : ∀ {xs : List α} {ys : List β}, Paired R xs ys → Paired R (xs ++ [x]) (ys ++ [y])
  | _, _, .nil => .cons r .nil
  | _, _, .cons a b => .cons a (paired_snoc r b)
/-- a tuple of tuples of natural numbers -/
def Tabs (K : PySem.W.Frag) (H : Hp) (v : V) (ts : List (List Nat)) : Prop := ∃ a vs, v = .ref a ∧ SqT K H a vs ∧ Paired (Nats K H) vs ts
theorem Tabs.et {K : PySem.W.Frag} {H H' : Hp} {v : V} {ts : List (List Nat)} (e : ET K H H') (h : Tabs K H v ts) : Tabs K H' v ts := let ⟨a, vs, q, s, p⟩ := h; ⟨a, vs, q, e _ _ s, paired_imp (fun _ _ n => n.et e) p⟩
theorem Tabs.ex {K : PySem.W.Frag} {H H' : Hp} {v : V} {ts : List (List Nat)} (e : Evl.Ex H H') (h : Tabs K H v ts) : Tabs K H' v ts := h.et (Dw.Ex.et e)
/-- a deed; a signature -/
def Deed (K : PySem.W.Frag) (H : Hp) (v : V) (p : Str × Nat) : Prop := ∃ b, v = .ref b ∧ SqT K H b [.str p.1, vi p.2]
theorem Deed.et {K : PySem.W.Frag} {H H' : Hp} {v : V} {p : Str × Nat} (e : ET K H H') (h : Deed K H v p) : Deed K H' v p := let ⟨b, q, s⟩ := h; ⟨b, q, e _ _ s⟩
def Sig (K : PySem.W.Frag) (H : Hp) (v : V) (sg : List (Str × Nat)) : Prop := ∃ a vs, v = .ref a ∧ SqT K H a vs ∧ Paired (Deed K H) vs sg
theorem Sig.et {K : PySem.W.Frag} {H H' : Hp} {v : V} {sg : List (Str × Nat)} (e : ET K H H') (h : Sig K H v sg) : Sig K H' v sg := let ⟨a, vs, q, s, p⟩ := h; ⟨a, vs, q, e _ _ s, paired_imp (fun _ _ n => n.et e) p⟩
theorem Sig.ex {K : PySem.W.Frag} {H H' : Hp} {v : V} {sg : List (Str × Nat)} (e : Evl.Ex H H') (h : Sig K H v sg) : Sig K H' v sg := h.et (Dw.Ex.et e)
/-- a model: its size and its tables -/
def Mdl (K : PySem.W.Frag) (H : Hp) (v : V) (n : Nat) (ts : List (List Nat)) : Prop := ∃ a u, v = .ref a ∧ SqT K H a [vi n, u] ∧ Tabs K H u ts
theorem Mdl.et {K : PySem.W.Frag} {H H' : Hp} {v : V} {n : Nat} {ts : List (List Nat)} (e : ET K H H') (h : Mdl K H v n ts) : Mdl K H' v n ts := let ⟨a, u, q, s, p⟩ := h; ⟨a, u, q, e _ _ s, p.et e⟩
theorem Mdl.ex {K : PySem.W.Frag} {H H' : Hp} {v : V} {n : Nat} {ts : List (List Nat)} (e : Evl.Ex H H') (h : Mdl K H v n ts) : Mdl K H' v n ts := h.et (Dw.Ex.et e)
end Dw
end
section
/-! a def that the module holds under another name too -/
namespace Dw
open PySem PySem.Spec PyProof.Rows L2 Evl
end Dw
end
section
/-! the mathematics of renaming, over plain lists of natural numbers -/
namespace M20
/-- the k-th, 0 where there is none -/
abbrev g (l : List Nat) (k : Nat) : Nat := l.getD k 0
theorem g_eq {l : List Nat} {k : Nat} (h : k < l.length) : l[k]? = some (g l k) := by
  show l[k]? = some (l.getD k 0)
  rw [List.getD_eq_getElem?_getD, List.getElem?_eq_getElem h]
  rfl
theorem ext {l m : List Nat} (h : l.length = m.length) (e : ∀ k, k < l.length → g l k = g m k) : l = m := by
  apply List.ext_getElem? 
  intro k
  by_cases hk : k < l.length
  · rw [g_eq hk, g_eq (h ▸ hk), e k hk]
  · rw [List.getElem?_eq_none_iff.mpr (by omega), List.getElem?_eq_none_iff.mpr (by omega)]
theorem g_map {f : Nat → Nat} {n k : Nat} (h : k < n) : g ((List.range n).map f) k = f k := by
  show ((List.range n).map f).getD k 0 = f k
  rw [List.getD_eq_getElem?_getD, List.getElem?_map, List.getElem?_range h]
  rfl
/-- an order of the size n -/
structure Ord (n : Nat) (o : List Nat) : Prop where
  len : o.length = n
  low : ∀ k, k < n → g o k < n
  inj : ∀ j k, j < n → k < n → g o j = g o k → j = k
/-- what is called k -/
def bk (o : List Nat) : List Nat := (List.range o.length).map fun k => o.idxOf k
theorem bk_len (o : List Nat) : (bk o).length = o.length := by simp [bk]
theorem idx_of {n : Nat} {o : List Nat} (h : Ord n o) {k : Nat} (hk : k < n) : o.idxOf (g o k) = k := by
  have h1 : k < o.length := by rw [h.len]; exact hk
  have hm : g o k ∈ o := List.mem_iff_getElem?.mpr ⟨k, g_eq h1⟩
  have h2 : o.idxOf (g o k) < o.length := List.idxOf_lt_length_of_mem hm
  have h3 : o[o.idxOf (g o k)]? = some (g o k) := by
    rw [List.getElem?_eq_getElem h2, List.getElem_idxOf h2]
  rw [g_eq h2] at h3
  exact h.inj _ _ (by rw [← h.len]; exact h2) hk (Option.some.inj h3)
theorem len_le : ∀ (l m : List Nat), l.Nodup → (∀ x ∈ l, x ∈ m) → l.length ≤ m.length
  | [], _, _, _ => Nat.zero_le _
  | x :: l, m, nd, sub => by
    have hx : x ∈ m := sub x List.mem_cons_self
    have h1 := List.nodup_cons.mp nd
    have h2 := len_le l (m.erase x) h1.2 (fun y hy => (List.mem_erase_of_ne (show y ≠ x from fun e => h1.1 (by rw [← e]; exact hy))).mpr (sub y (List.mem_cons_of_mem _ hy)))
    rw [List.length_erase_of_mem hx] at h2
    have : 0 < m.length := List.length_pos_of_mem hx
    rw [List.length_cons]
    omega
/-- an injective map of the numbers below n hits them all -/
theorem hits : ∀ (n : Nat) (o : List Nat), Ord n o → ∀ k, k < n → k ∈ o := by
  intro n o h k hk
  have nd : o.Nodup := by
    rw [List.nodup_iff_pairwise_ne, List.pairwise_iff_getElem]
    intro i j hi hj hij e
    have hi' : i < n := by rw [← h.len]; exact hi
    have hj' : j < n := by rw [← h.len]; exact hj
    have e1 : g o i = g o j := by
      have a := g_eq hi
      have b := g_eq hj
      rw [List.getElem?_eq_getElem hi] at a
      rw [List.getElem?_eq_getElem hj] at b
      exact (Option.some.inj a).symm.trans (e.trans (Option.some.inj b))
    have := h.inj i j hi' hj' e1
    omega
  have low : ∀ x ∈ o, x < n := by
    intro x hx
    obtain ⟨i, hi, e⟩ := List.mem_iff_getElem.mp hx
    have hi' : i < n := by rw [← h.len]; exact hi
    have a := g_eq hi
    rw [List.getElem?_eq_getElem hi] at a
    have : x = g o i := e.symm.trans (Option.some.inj a)
    rw [this]
    exact h.low i hi'
  by_cases hm : k ∈ o
  · exact hm
  · have h1 := len_le (k :: o) (List.range n) (List.nodup_cons.mpr ⟨hm, nd⟩) (fun x hx => List.mem_range.mpr (by
      rcases List.mem_cons.mp hx with e | e
      · rw [e]; exact hk
      · exact low x e))
    rw [List.length_cons, List.length_range, h.len] at h1
    omega
theorem bk_low {n : Nat} {o : List Nat} (h : Ord n o) {k : Nat} (hk : k < n) : g (bk o) k < n := by
  rw [bk, g_map (by rw [h.len]; exact hk), ← h.len]
  exact List.idxOf_lt_length_of_mem (hits n o h k hk)
/-- there and back -/
theorem bk_g {n : Nat} {o : List Nat} (h : Ord n o) {k : Nat} (hk : k < n) : g (bk o) (g o k) = k := by
  rw [bk, g_map (by rw [h.len]; exact h.low k hk)]
  exact idx_of h hk
theorem g_bk {n : Nat} {o : List Nat} (h : Ord n o) {k : Nat} (hk : k < n) : g o (g (bk o) k) = k := by
  rw [bk, g_map (by rw [h.len]; exact hk)]
  have h2 : o.idxOf k < o.length := List.idxOf_lt_length_of_mem (hits n o h k hk)
  have h3 : o[o.idxOf k]? = some k := by rw [List.getElem?_eq_getElem h2, List.getElem_idxOf h2]
  rw [g_eq h2] at h3
  exact Option.some.inj h3
theorem bk_ord {n : Nat} {o : List Nat} (h : Ord n o) : Ord n (bk o) := ⟨by rw [bk_len, h.len], fun _ hk => bk_low h hk, fun j k hj hk e => by
  rw [← g_bk h hj, ← g_bk h hk, e]⟩
theorem bk_bk {n : Nat} {o : List Nat} (h : Ord n o) : bk (bk o) = o := ext (by rw [bk_len, bk_len]) fun k hk => by
  have hk' : k < n := by rw [bk_len, bk_len, h.len] at hk; exact hk
  have e : g (bk o) (g (bk (bk o)) k) = k := g_bk (bk_ord h) hk'
  have e2 : g (bk o) (g o k) = k := bk_g h hk'
  exact (bk_ord h).inj _ _ (bk_low (bk_ord h) hk') (h.low k hk') (e.trans e2.symm)
/-- by the one and then by the other -/
def cmp (a b : List Nat) : List Nat := a.map fun k => g b k
theorem cmp_g {n : Nat} {a b : List Nat} (ha : Ord n a) {k : Nat} (hk : k < n) : g (cmp a b) k = g b (g a k) := by
  show (a.map fun k => g b k).getD k 0 = _
  rw [List.getD_eq_getElem?_getD, List.getElem?_map, g_eq (by rw [ha.len]; exact hk)]
  rfl
theorem cmp_ord {n : Nat} {a b : List Nat} (ha : Ord n a) (hb : Ord n b) : Ord n (cmp a b) := ⟨by simp [cmp, ha.len], fun k hk => by
  rw [cmp_g ha hk]
  exact hb.low _ (ha.low k hk), fun j k hj hk e => by
  rw [cmp_g ha hj, cmp_g ha hk] at e
  exact ha.inj _ _ hj hk (hb.inj _ _ (ha.low j hj) (ha.low k hk) e)⟩
theorem bk_cmp {n : Nat} {a b : List Nat} (ha : Ord n a) (hb : Ord n b) {k : Nat} (hk : k < n) : g (bk (cmp a b)) k = g (bk a) (g (bk b) k) := by
  have hc := cmp_ord ha hb
  have h1 := bk_low hb hk
  have h2 := bk_low ha h1
  apply hc.inj _ _ (bk_low hc hk) h2
  rw [g_bk hc hk, cmp_g ha h2, g_bk ha h1, g_bk hb hk]
/-! a table of a deed of p places over n numbers -/
structure Tab (n p : Nat) (t : List Nat) : Prop where
  len : t.length = n ^ p
  low : ∀ k, k < n ^ p → g t k < n
/-- the place from which the renamed table has its s-th number -/
def src (n p : Nat) (b : List Nat) (s : Nat) : Nat := if p = 0 then 0 else if p = 1 then g b s else g b (s / n) * n + g b (s % n)
def ren (n p : Nat) (o t : List Nat) : List Nat := (List.range (n ^ p)).map fun s => g o (g t (src n p (bk o) s))
theorem mul_lt {n a b : Nat} (ha : a < n) (hb : b < n) : a * n + b < n * n := by
  have : (a + 1) * n ≤ n * n := Nat.mul_le_mul_right n ha
  rw [Nat.add_mul, Nat.one_mul] at this
  omega
theorem src_low {n p : Nat} {b : List Nat} (hp : p ≤ 2) (hb : ∀ k, k < n → g b k < n) {s : Nat} (hs : s < n ^ p) : src n p b s < n ^ p := by
  unfold src
  match p, hp with
  | 0, _ => simp
  | 1, _ =>
    rw [if_neg (by decide), if_pos rfl]
    rw [Nat.pow_one] at hs ⊢
    exact hb s hs
  | 2, _ =>
    rw [if_neg (by decide), if_neg (by decide)]
    rw [Nat.pow_two] at hs ⊢
    have hn : 0 < n := by
      rcases Nat.eq_zero_or_pos n with e | e
      · subst e; omega
      · exact e
    exact mul_lt (hb _ (Nat.div_lt_of_lt_mul hs)) (hb _ (Nat.mod_lt _ hn))
theorem ren_len (n p : Nat) (o t : List Nat) : (ren n p o t).length = n ^ p := by simp [ren]
theorem ren_g {n p : Nat} {o t : List Nat} {s : Nat} (hs : s < n ^ p) : g (ren n p o t) s = g o (g t (src n p (bk o) s)) := g_map hs
theorem ren_tab {n p : Nat} {o t : List Nat} (hp : p ≤ 2) (ho : Ord n o) (ht : Tab n p t) : Tab n p (ren n p o t) := ⟨ren_len n p o t, fun k hk => by
  rw [ren_g hk]
  exact ho.low _ (ht.low _ (src_low hp (fun _ h => bk_low ho h) hk))⟩
theorem src_src {n p : Nat} {a b : List Nat} (hp : p ≤ 2) (ha : Ord n a) (hb : Ord n b) {s : Nat} (hs : s < n ^ p) : src n p (bk a) (src n p (bk b) s) = src n p (bk (cmp a b)) s := by
  unfold src
  match p, hp with
  | 0, _ => simp
  | 1, _ =>
    rw [if_neg (by decide), if_pos rfl, if_neg (by decide), if_pos rfl, if_neg (by decide), if_pos rfl]
    rw [Nat.pow_one] at hs
    exact (bk_cmp ha hb hs).symm
  | 2, _ =>
    rw [if_neg (by decide), if_neg (by decide), if_neg (by decide), if_neg (by decide), if_neg (by decide), if_neg (by decide)]
    rw [Nat.pow_two] at hs
    have hn : 0 < n := by
      rcases Nat.eq_zero_or_pos n with e | e
      · subst e; omega
      · exact e
    have h1 : s / n < n := Nat.div_lt_of_lt_mul hs
    have h2 : s % n < n := Nat.mod_lt _ hn
    have b2 := bk_low hb h2
    rw [bk_cmp ha hb h1, bk_cmp ha hb h2]
    rw [Nat.add_comm (g (bk b) (s / n) * n), Nat.add_mul_div_right _ _ hn, Nat.div_eq_of_lt b2, Nat.zero_add, Nat.add_mul_mod_self_right, Nat.mod_eq_of_lt b2]
theorem ren_ren {n p : Nat} {a b t : List Nat} (hp : p ≤ 2) (ha : Ord n a) (hb : Ord n b) (ht : Tab n p t) : ren n p b (ren n p a t) = ren n p (cmp a b) t := ext (by rw [ren_len, ren_len]) fun s hs => by
  rw [ren_len] at hs
  have h1 := src_low hp (fun _ h => bk_low hb h) hs
  rw [ren_g hs, ren_g h1, ren_g hs, src_src hp ha hb hs]
  have h2 := src_low hp (fun _ h => bk_low (cmp_ord ha hb) h) hs
  exact (cmp_g ha (ht.low _ h2)).symm
theorem id_ord (n : Nat) : Ord n (List.range n) := ⟨List.length_range, fun k hk => by
  rw [← List.map_id (List.range n), g_map hk]; exact hk, fun j k hj hk e => by
  rw [← List.map_id (List.range n), g_map hj, g_map hk] at e; exact e⟩
theorem g_id {n k : Nat} (h : k < n) : g (List.range n) k = k := by
  rw [← List.map_id (List.range n), g_map h]
  rfl
theorem bk_id {n k : Nat} (h : k < n) : g (bk (List.range n)) k = k := by
  have e := bk_g (id_ord n) h
  rw [g_id h] at e
  exact e
theorem src_id {n p : Nat} (hp : p ≤ 2) {s : Nat} (hs : s < n ^ p) : src n p (bk (List.range n)) s = s := by
  unfold src
  match p, hp with
  | 0, _ => simp at hs; simp [hs]
  | 1, _ =>
    rw [if_neg (by decide), if_pos rfl]
    rw [Nat.pow_one] at hs
    exact bk_id hs
  | 2, _ =>
    rw [if_neg (by decide), if_neg (by decide)]
    rw [Nat.pow_two] at hs
    have hn : 0 < n := by
      rcases Nat.eq_zero_or_pos n with e | e
      · subst e; omega
      · exact e
    rw [bk_id (Nat.div_lt_of_lt_mul hs), bk_id (Nat.mod_lt _ hn), Nat.mul_comm]
    exact Nat.div_add_mod s n
theorem ren_id {n p : Nat} {t : List Nat} (hp : p ≤ 2) (ht : Tab n p t) : ren n p (List.range n) t = t := ext (by rw [ren_len, ht.len]) fun s hs => by
  rw [ren_len] at hs
  rw [ren_g hs, src_id hp hs]
  exact g_id (ht.low s hs)
theorem cmp_bk {n : Nat} {o : List Nat} (h : Ord n o) : cmp o (bk o) = List.range n := ext (by simp [cmp, h.len]) fun k hk => by
  have hk' : k < n := by simp [cmp, h.len] at hk; exact hk
  rw [cmp_g h hk', bk_g h hk', g_id hk']
theorem ren_back {n p : Nat} {o t : List Nat} (hp : p ≤ 2) (ho : Ord n o) (ht : Tab n p t) : ren n p (bk o) (ren n p o t) = t := by
  rw [ren_ren hp ho (bk_ord ho) ht, cmp_bk ho, ren_id hp ht]
/-! the law's own way: each number of the table put at its place -/
def spot (n p : Nat) (o : List Nat) (k : Nat) : Nat := g o (k % n) * (if 0 < p then 1 else 0) + g o (k / n % n) * n * (if p = 2 then 1 else 0)
theorem spot_low {n p : Nat} {o : List Nat} (hp : p ≤ 2) (ho : Ord n o) {k : Nat} (hk : k < n ^ p) : spot n p o k < n ^ p := by
  unfold spot
  match p, hp with
  | 0, _ => simp
  | 1, _ =>
    rw [Nat.pow_one] at hk ⊢
    rw [if_pos (by decide), if_neg (by decide), Nat.mul_zero, Nat.mul_one, Nat.add_zero, Nat.mod_eq_of_lt hk]
    exact ho.low k hk
  | 2, _ =>
    rw [Nat.pow_two] at hk ⊢
    have hn : 0 < n := by
      rcases Nat.eq_zero_or_pos n with e | e
      · subst e; omega
      · exact e
    rw [if_pos (by decide), if_pos rfl, Nat.mul_one, Nat.mul_one, Nat.add_comm]
    exact mul_lt (ho.low _ (Nat.mod_lt _ hn)) (ho.low _ (Nat.mod_lt _ hn))
theorem src_spot {n p : Nat} {o : List Nat} (hp : p ≤ 2) (ho : Ord n o) {k : Nat} (hk : k < n ^ p) : src n p (bk o) (spot n p o k) = k := by
  unfold spot src
  match p, hp with
  | 0, _ => simp at hk; simp [hk]
  | 1, _ =>
    rw [Nat.pow_one] at hk
    rw [if_neg (by decide), if_pos rfl, if_pos (by decide), if_neg (by decide), Nat.mul_zero, Nat.mul_one, Nat.add_zero, Nat.mod_eq_of_lt hk]
    exact bk_g ho hk
  | 2, _ =>
    rw [Nat.pow_two] at hk
    have hn : 0 < n := by
      rcases Nat.eq_zero_or_pos n with e | e
      · subst e; omega
      · exact e
    have h1 : k / n < n := Nat.div_lt_of_lt_mul hk
    have h2 : k % n < n := Nat.mod_lt _ hn
    rw [if_neg (by decide), if_neg (by decide), if_pos (by decide), if_pos rfl, Nat.mul_one, Nat.mul_one, Nat.mod_eq_of_lt h1]
    have b2 := ho.low _ h2
    rw [Nat.add_mul_div_right _ _ hn, Nat.div_eq_of_lt b2, Nat.zero_add, Nat.add_mul_mod_self_right, Nat.mod_eq_of_lt b2, bk_g ho h1, bk_g ho h2, Nat.mul_comm]
    exact Nat.div_add_mod k n
theorem spot_src {n p : Nat} {o : List Nat} (hp : p ≤ 2) (ho : Ord n o) {s : Nat} (hs : s < n ^ p) : spot n p o (src n p (bk o) s) = s := by
  unfold spot src
  match p, hp with
  | 0, _ => simp at hs; simp [hs]
  | 1, _ =>
    rw [Nat.pow_one] at hs
    rw [if_neg (by decide), if_pos rfl, if_pos (by decide), if_neg (by decide), Nat.mul_zero, Nat.mul_one, Nat.add_zero, Nat.mod_eq_of_lt (bk_low ho hs)]
    exact g_bk ho hs
  | 2, _ =>
    rw [Nat.pow_two] at hs
    have hn : 0 < n := by
      rcases Nat.eq_zero_or_pos n with e | e
      · subst e; omega
      · exact e
    have h1 : s / n < n := Nat.div_lt_of_lt_mul hs
    have h2 : s % n < n := Nat.mod_lt _ hn
    have b1 := bk_low ho h1
    have b2 := bk_low ho h2
    rw [if_neg (by decide), if_neg (by decide), if_pos (by decide), if_pos rfl, Nat.mul_one, Nat.mul_one]
    rw [Nat.add_comm (g (bk o) (s / n) * n), Nat.add_mul_mod_self_right, Nat.mod_eq_of_lt b2, Nat.add_mul_div_right _ _ hn, Nat.div_eq_of_lt b2, Nat.zero_add, Nat.mod_eq_of_lt b1, g_bk ho h1, g_bk ho h2, Nat.add_comm, Nat.mul_comm]
    exact Nat.div_add_mod s n
/-- the first k numbers put -/
def led (n p : Nat) (o t : List Nat) : Nat → List Nat
  | 0 => t
  | k + 1 => (led n p o t k).set (spot n p o k) (g o (g t k))
theorem led_len (n p : Nat) (o t : List Nat) : ∀ k, (led n p o t k).length = t.length
  | 0 => rfl
  | k + 1 => by rw [led, List.length_set, led_len n p o t k]
theorem g_set {l : List Nat} {i k v : Nat} (hi : i < l.length) : g (l.set i v) k = if i = k then v else g l k := by
  show (l.set i v).getD k 0 = _
  rw [List.getD_eq_getElem?_getD, List.getElem?_set]
  by_cases e : i = k
  · subst e
    rw [if_pos rfl, if_pos hi, if_pos rfl]
    rfl
  · rw [if_neg e, if_neg e]
    show _ = l.getD k 0
    rw [List.getD_eq_getElem?_getD]
theorem led_g {n p : Nat} {o t : List Nat} (hp : p ≤ 2) (ho : Ord n o) (ht : Tab n p t) : ∀ k, k ≤ n ^ p → ∀ s, s < n ^ p → src n p (bk o) s < k → g (led n p o t k) s = g o (g t (src n p (bk o) s))
  | 0, _, _, _, h => absurd h (Nat.not_lt_zero _)
  | k + 1, hk, s, hs, h => by
    rw [led, g_set (by rw [led_len, ht.len]; exact spot_low hp ho hk)]
    by_cases e : spot n p o k = s
    · rw [if_pos e, ← e, src_spot hp ho hk]
    · rw [if_neg e]
      apply led_g hp ho ht k (Nat.le_of_lt hk) s hs
      rcases Nat.lt_succ_iff_lt_or_eq.mp h with q | q
      · exact q
      · exact absurd (by rw [← q]; exact spot_src hp ho hs) e
theorem led_ren {n p : Nat} {o t : List Nat} (hp : p ≤ 2) (ho : Ord n o) (ht : Tab n p t) : led n p o t (n ^ p) = ren n p o t := ext (by rw [led_len, ren_len, ht.len]) fun s hs => by
  rw [led_len, ht.len] at hs
  rw [ren_g hs]
  exact led_g hp ho ht _ (Nat.le_refl _) s hs (src_low hp (fun _ h => bk_low ho h) hs)
end M20
end
section
/-! loops and comprehensions over anything that is walked; statements by what holds of a value -/
namespace Dw
open PySem PySem.Spec PyProof.Rows L2 Evl
section
variable {K : PySem.W.Frag} {σ : L2.St} {H H' : Hp} {ta tb te : TE} {t : TT} {x y z v : V} {P : V → Hp → Prop} {D : Ends} {tu tz : TS} {g : TG}
/-! ### statements -/
theorem s_asgP {i : Nat} (h : EvP te σ H P) (k : ∀ v H1, Ex H H1 → P v H1 → D.nx (σ.set i (some v)) H1) : tAsg te (gName i) D σ H := h H (Ex.refl H) _ fun v H1 e p => k v H1 e p
theorem q_asgP {i : Nat} (h : EvP te σ H P) (k : ∀ v H1, Ex H H1 → P v H1 → tz D (σ.set i (some v)) H1) : tSeq (tAsg te (gName i)) tz D σ H := s_asgP (D := { D with nx := tz D }) h k
theorem s_retP (h : EvP te σ H P) (k : ∀ v H1, Ex H H1 → P v H1 → D.rt v H1) : tRet te D σ H := h H (Ex.refl H) _ fun v H1 e p => k v H1 e p
theorem s_dropP (h : EvP te σ H P) (k : ∀ v H1, Ex H H1 → P v H1 → D.nx σ H1) : tDrop te D σ H := h H (Ex.refl H) _ fun v H1 e p => k v H1 e p
/-- xs.append(e), e by what holds of it -/
theorem s_appP {l : Addr} {xs : List V} (hl : H l = some (.lst xs)) (ha : Ev ta σ H (.ref l)) (h : EvP te σ H P) (hz : xs.length < 100000) (k : ∀ v H1, Ex H H1 → P v H1 → D.nx σ (upd H1 l (.lst (xs ++ [v])))) :
    tDrop (tBM K "list" rAppend ta (tCons te tNil)) D σ H := by
  refine ha H (Ex.refl H) _ fun H1 e1 => ?_
  exact
  ⟨Or.inl ⟨rfl, xs, sq_of (e1 l _ hl)⟩, h H1 e1 _ fun v H2 e2 p => ⟨l, xs, v, rfl, rfl, e2 l _ (e1 l _ hl), sz_lt hz, k v H2 (e1.trans e2) p⟩⟩
/-- arguments, the last of them by what holds of it -/
def EvAP (ta : TA) (σ : L2.St) (H : Hp) (P : List V → Hp → Prop) : Prop := ∀ H1, Ex H H1 → ∀ Q : List V → Hp → Prop, (∀ vs H2, Ex H1 H2 → P vs H2 → Q vs H2) → ta σ H1 Q
theorem eap_ev {ta : TA} {vs : List V} (h : EvA ta σ H vs) {P : List V → Hp → Prop} (p : ∀ H', Ex H H' → P vs H') : EvAP ta σ H P := fun H1 e Q q => h H1 e Q fun H2 e2 => q vs H2 e2 (p H2 (e.trans e2))
theorem eap_cons {tr : TA} {P : V → Hp → Prop} {R : List V → Hp → Prop} (h : EvP te σ H P) (hr : EvAP tr σ H R) (keep : ∀ v H1 H2, Ex H1 H2 → P v H1 → P v H2) : EvAP (tCons te tr) σ H (fun vs H' => ∃ v r, vs = v :: r ∧ P v H' ∧ R r H') := fun H1 e Q q =>
  h H1 e _ fun v H2 e2 p => hr H2 (e.trans e2) _ fun r H3 e3 pr => q (v :: r) H3 (e2.trans e3) ⟨v, r, rfl, keep v H2 H3 e3 p, pr⟩
/-- a call by a pure promise, its arguments by what holds of them -/
theorem ep_callP {α : Type} {pre : α → List V → Hp → Prop} {post : α → V → Hp → Prop} {R : List V → Hp → Prop} (a : α) {E : XK} {ta : TA} (h : EvAP ta σ H R) (hp : ∀ vs H1, Ex H H1 → R vs H1 → pre a vs H1) : EvP (tCall (spX pre post) [] E ta) σ H (post a) := fun H1 e Q q =>
  h H1 e _ fun vs H2 e2 r => by
    rw [List.append_nil]
    exact ⟨a, hp vs H2 (e.trans e2) r, fun v H3 e3 p => q v H3 (e2.trans e3) p⟩
/-! ### all -/
theorem ev_all {bs : List Bool} (h : EvL te σ H (bs.map V.bl)) : Ev (tCB (rAll K) (tCons te tNil)) σ H (.bl (bs.all id)) := fun H1 e Q q =>
  h H1 e _ fun p H2 _ e2 hp => ⟨p, bs, rfl, sq_of hp, q H2 e2⟩
/-! ### comprehensions -/
theorem et_yes : EvT tYes σ H true := fun H1 _ _ q => q H1 (Ex.refl H1)
/-- one for over anything whose turns leave the heap as it was -/
theorem el_lcIt {J : It} {n : Nat} {G : Hp → Prop} {Y : Nat → Hp → V → Hp → Prop} {wi : TI} {Px : Nat → V → Prop} {j : Nat} {vs : List Nat} (w : Walk J n G Y)
    (hw0 : ∀ H0, Ex H H0 → ∀ R : It → Hp → Prop, (∀ H1, Ex H0 H1 → R J H1) → wi σ H0 R) (hG : ∀ H1, Ex H H1 → G H1) (hY : ∀ i H x H', Y i H x H' → H' = H ∧ Px i x)
    (f : Nat → Bool) (u : Nat → V) (hn : n ≤ 40000) (hwp : ∀ x, wipe ((wipe σ vs).set j (some x)) vs = wipe σ vs)
    (ht : ∀ i x H1, Ex H H1 → i < n → Px i x → EvT t ((wipe σ vs).set j (some x)) H1 (f i)) (he : ∀ i x H1, Ex H H1 → i < n → Px i x → f i = true → Ev te ((wipe σ vs).set j (some x)) H1 (u i)) :
    EvL (tLc wi (gName j) t te vs) σ H (given n f u) := fun H0 e Q q => hw0 H0 e _ fun H1 e1 Dl hD =>
  lc_it w (Cw H1 f u Dl) ⟨hD, Ex.new hD, upd_same⟩ (fun i H2 _ p => hG H2 ((e.trans e1).trans p.2.1)) (fun i x H2 H3 hi p y => by
    obtain ⟨rfl, px⟩ := hY i H2 x H3 y
    exact ⟨hwp x, cw_turn p (by omega) (ht i x H1 (e.trans e1) hi px) (fun hf => he i x H1 (e.trans e1) hi px hf)⟩)
    (fun H2 p => q Dl H2 (fresh_back e1 p.1) (e1.trans p.2.1) p.2.2)
theorem given_all (n : Nat) (u : Nat → V) : given n (fun _ => true) u = (List.range n).map u := by
  unfold given
  rw [List.filter_eq_self.mpr (fun _ _ => rfl)]
/-- .. without a test -/
theorem el_lcAll {J : It} {n : Nat} {G : Hp → Prop} {Y : Nat → Hp → V → Hp → Prop} {wi : TI} {Px : Nat → V → Prop} {j : Nat} {vs : List Nat} (w : Walk J n G Y)
    (hw0 : ∀ H0, Ex H H0 → ∀ R : It → Hp → Prop, (∀ H1, Ex H0 H1 → R J H1) → wi σ H0 R) (hG : ∀ H1, Ex H H1 → G H1) (hY : ∀ i H x H', Y i H x H' → H' = H ∧ Px i x)
    (u : Nat → V) (hn : n ≤ 40000) (hwp : ∀ x, wipe ((wipe σ vs).set j (some x)) vs = wipe σ vs) (he : ∀ i x H1, Ex H H1 → i < n → Px i x → Ev te ((wipe σ vs).set j (some x)) H1 (u i)) :
    EvL (tLc wi (gName j) tYes te vs) σ H ((List.range n).map u) := by
  have h := el_lcIt w hw0 hG hY (fun _ => true) u hn hwp (fun _ _ _ _ _ _ => et_yes) (fun i x H1 e hi px _ => he i x H1 e hi px)
  rw [given_all] at h
  exact h
theorem w_str {z : Str} (h : Ev te σ H (.str z)) : ∀ H0, Ex H H0 → ∀ R : It → Hp → Prop, (∀ H1, Ex H0 H1 → R (Its z) H1) → iStr te σ H0 R := fun H0 e R r => h H0 e _ fun H1 e1 => ⟨z, rfl, r H1 e1⟩
theorem w_tup {a : Addr} {xs : List V} (h : Ev te σ H (.ref a)) (hx : SqT K H a xs) : ∀ H0, Ex H H0 → ∀ R : It → Hp → Prop, (∀ H1, Ex H0 H1 → R (Itt K a) H1) → iTup K te σ H0 R := fun H0 e R r => h H0 e _ fun H1 e1 => ⟨a, rfl, ⟨xs, ex_t (e.trans e1) hx⟩, r H1 e1⟩
theorem w_rng {ta : TA} {n : Nat} (h : EvA ta σ H [vi n]) (hn : n ≤ 40000) : ∀ H0, Ex H H0 → ∀ R : It → Hp → Prop, (∀ H1, Ex H0 H1 → R (Itr 0 n) H1) → iRng1 ta σ H0 R := fun H0 e R r => h H0 e _ fun H1 e1 => ⟨n, rfl, by omega, by omega, r H1 e1⟩
/-- over a tuple, a value for each item -/
theorem el_lcT {a : Addr} {xs : List V} {tl : TE} {j : Nat} {vs : List Nat} (h : Ev tl σ H (.ref a)) (hx : SqT K H a xs) (u : Nat → V) (hn : xs.length ≤ 40000) (hwp : ∀ x, wipe ((wipe σ vs).set j (some x)) vs = wipe σ vs)
    (he : ∀ i x H1, Ex H H1 → xs[i]? = some x → Ev te ((wipe σ vs).set j (some x)) H1 (u i)) : EvL (tLc (iTup K tl) (gName j) tYes te vs) σ H ((List.range xs.length).map u) :=
  el_lcAll walk_tup (w_tup h hx) (fun H1 e => ex_t e hx) (Px := fun i x => xs[i]? = some x) (fun i H x H' y => y) u hn hwp (fun i x H1 e _ px => he i x H1 e px)
theorem el_lcS {z : Str} {tl : TE} {j : Nat} {vs : List Nat} (h : Ev tl σ H (.str z)) (u : Nat → V) (hn : z.cps.size ≤ 40000) (hwp : ∀ x, wipe ((wipe σ vs).set j (some x)) vs = wipe σ vs)
    (he : ∀ i c H1, Ex H H1 → z.cps[i]? = some c → Ev te ((wipe σ vs).set j (some (.str ⟨#[c]⟩))) H1 (u i)) : EvL (tLc (iStr tl) (gName j) tYes te vs) σ H ((List.range z.cps.size).map u) :=
  el_lcAll walk_str (w_str h) (fun _ _ => trivial) (Px := fun i x => ∃ c, z.cps[i]? = some c ∧ x = .str ⟨#[c]⟩) (fun i H x H' y => y) u hn hwp (fun i x H1 e _ ⟨c, hc, hx⟩ => by subst hx; exact he i c H1 e hc)
/-! ### loops that give pairs -/
theorem walk_enumT {a : Addr} {xs : List V} : Walk (IteT K a) xs.length (fun H => SqT K H a xs) (YPair (fun i => some (vi i)) (fun i => xs[i]?)) := by
  refine ⟨fun i H hi q => ⟨xs, xs[i], q, List.getElem?_eq_getElem hi⟩, fun H q => ⟨xs, q, Nat.le_refl _⟩, fun i H v H' _ q y => ?_⟩
  obtain ⟨T, x, h1, h2, h3, h4⟩ := y
  exact ⟨T, vi i, x, h1, h2, h3, rfl, h4 xs q⟩
theorem q_enumT {a : Addr} {xs : List V} {ta : TA} {j1 j2 : Nat} (h : EvA ta σ H [.ref a]) (hx : SqT K H a xs) (Pv : Nat → L2.St → Hp → Prop) (h0 : ∀ H1, Ex H H1 → Pv 0 σ H1) (hl : ∀ i σ' H', i ≤ xs.length → Pv i σ' H' → SqT K H' a xs)
    (hs : ∀ i x σ' H' H'', xs[i]? = some x → Pv i σ' H' → Ex H' H'' → tu { D with nx := Pv (i + 1), ct := Pv (i + 1), bk := tz D } ((σ'.set j1 (some (vi i))).set j2 (some x)) H'') (hd : ∀ σ' H', Pv xs.length σ' H' → tz D σ' H') :
    tSeq (tFor (iEnumT K ta) (gTup K 2 (gCons (gName j1) (gCons (gName j2) gNil))) tu) tz D σ H :=
  h H (Ex.refl H) _ fun H1 e => ⟨a, xs, rfl, ex_t e hx, for_it (D := { D with nx := tz D }) walk_enumT Pv (h0 H1 e) hl (fun i v σ' H2 H3 hi p y => by
    obtain ⟨T, x1, x2, rfl, nT, rfl, e1, e2⟩ := y
    cases e1
    exact ⟨T, _, rfl, st_of upd_same, rfl, _, _, rfl, _, _, rfl, rfl, hs i x2 σ' H2 _ e2 p (Ex.new nT)⟩) hd⟩
theorem s_enumT {a : Addr} {xs : List V} {ta : TA} {j1 j2 : Nat} (h : EvA ta σ H [.ref a]) (hx : SqT K H a xs) (Pv : Nat → L2.St → Hp → Prop) (h0 : ∀ H1, Ex H H1 → Pv 0 σ H1) (hl : ∀ i σ' H', i ≤ xs.length → Pv i σ' H' → SqT K H' a xs)
    (hs : ∀ i x σ' H' H'', xs[i]? = some x → Pv i σ' H' → Ex H' H'' → tu { D with nx := Pv (i + 1), ct := Pv (i + 1), bk := D.nx } ((σ'.set j1 (some (vi i))).set j2 (some x)) H'') (hd : ∀ σ' H', Pv xs.length σ' H' → D.nx σ' H') :
    tFor (iEnumT K ta) (gTup K 2 (gCons (gName j1) (gCons (gName j2) gNil))) tu D σ H :=
  h H (Ex.refl H) _ fun H1 e => ⟨a, xs, rfl, ex_t e hx, for_it walk_enumT Pv (h0 H1 e) hl (fun i v σ' H2 H3 hi p y => by
    obtain ⟨T, x1, x2, rfl, nT, rfl, e1, e2⟩ := y
    cases e1
    exact ⟨T, _, rfl, st_of upd_same, rfl, _, _, rfl, _, _, rfl, rfl, hs i x2 σ' H2 _ e2 p (Ex.new nT)⟩) hd⟩
/-- enumerate of a list -/
theorem q_enumL {a : Addr} {xs : List V} {ta : TA} {j1 j2 : Nat} (h : EvA ta σ H [.ref a]) (hx : SqL K H a xs) (Pv : Nat → L2.St → Hp → Prop) (h0 : ∀ H1, Ex H H1 → Pv 0 σ H1) (hl : ∀ i σ' H', i ≤ xs.length → Pv i σ' H' → SqL K H' a xs)
    (hs : ∀ i x σ' H' H'', xs[i]? = some x → Pv i σ' H' → Ex H' H'' → tu { D with nx := Pv (i + 1), ct := Pv (i + 1), bk := tz D } ((σ'.set j1 (some (vi i))).set j2 (some x)) H'') (hd : ∀ σ' H', Pv xs.length σ' H' → tz D σ' H') :
    tSeq (tFor (iEnum K ta) (gTup K 2 (gCons (gName j1) (gCons (gName j2) gNil))) tu) tz D σ H :=
  h H (Ex.refl H) _ fun H1 e => ⟨a, xs, rfl, ex_l e hx, for_it (D := { D with nx := tz D }) walk_enum Pv (h0 H1 e) hl (fun i v σ' H2 H3 hi p y => by
    obtain ⟨T, x1, x2, rfl, nT, rfl, e1, e2⟩ := y
    cases e1
    exact ⟨T, _, rfl, st_of upd_same, rfl, _, _, rfl, _, _, rfl, rfl, hs i x2 σ' H2 _ e2 p (Ex.new nT)⟩) hd⟩
end
end Dw
end
section
/-! comprehensions of two fors; new tuples of lists; lists made and changed -/
namespace Dw
open PySem PySem.Spec PyProof.Rows L2 Evl
section
variable {K : PySem.W.Frag} {σ : L2.St} {H H' : Hp} {ta tb te : TE} {t : TT} {x y z v : V} {P : V → Hp → Prop} {D : Ends} {tu tz : TS} {g : TG}
theorem el_lc2T {a b : Addr} {xs ys : List V} {tl tl1 : TE} {j j1 : Nat} {vs vs1 : List Nat} (h : Ev tl σ H (.ref a)) (hx : SqT K H a xs) (h1 : ∀ x H1, Ex H H1 → Ev tl1 ((wipe σ vs).set j (some x)) H1 (.ref b)) (hy : SqT K H b ys) (u : Nat → Nat → V)
    (hn : xs.length ≤ 100) (hm : ys.length ≤ 100) (hw : ∀ x, wipe ((wipe σ vs).set j (some x)) vs = wipe σ vs) (hw1 : ∀ x y, wipe ((wipe ((wipe σ vs).set j (some x)) vs1).set j1 (some y)) vs1 = wipe ((wipe σ vs).set j (some x)) vs1)
    (he : ∀ i x k y H1, Ex H H1 → xs[i]? = some x → ys[k]? = some y → Ev te ((wipe ((wipe σ vs).set j (some x)) vs1).set j1 (some y)) H1 (u i k)) :
    EvL (tLc2 (iTup K tl) (gName j) tYes (iTup K tl1) (gName j1) tYes te vs vs1) σ H ((List.range xs.length).flatMap fun i => (List.range ys.length).map (u i)) := by
  intro H0 e Q q
  refine w_tup h hx H0 e _ fun H1 e1 Dl nD => ?_
  have e01 : Ex H H1 := e.trans e1
  let outer : Nat → List V := fun i => (List.range i).flatMap fun i => (List.range ys.length).map (u i)
  have lenO : ∀ i, (outer i).length = i * ys.length := by
    intro i
    induction i with
    | zero => show (0 : Nat) = 0 * ys.length; rw [Nat.zero_mul]
    | succ i ih =>
      show ((List.range (i + 1)).flatMap _).length = _
      rw [List.range_succ, List.flatMap_append, List.length_append]
      have e3 : ((List.range i).flatMap fun i => (List.range ys.length).map (u i)).length = i * ys.length := ih
      rw [e3, List.flatMap_singleton, List.length_map, List.length_range, Nat.add_mul, Nat.one_mul]
  refine ⟨fun i m H' => m = xs.length - i ∧ i ≤ xs.length ∧ Ex H1 H' ∧ H' Dl = some (.lst (outer i)), ⟨_, rfl, Nat.zero_le _, Ex.new nD, upd_same⟩, ?_⟩
  rintro i m H2 ⟨rfl, hi, e2, hD⟩
  by_cases hlt : i < xs.length
  · refine .inr ⟨⟨xs, xs[i], ex_t (e01.trans e2) hx, List.getElem?_eq_getElem hlt⟩, fun H' => Ex H1 H' ∧ H' Dl = some (.lst (outer (i + 1))), fun H' ⟨p1, p2⟩ => ⟨_, by omega, rfl, hlt, p1, p2⟩, fun x H3 yl => ?_⟩
    obtain ⟨rfl, hxi⟩ := yl
    have hxi' := hxi xs (ex_t (e01.trans e2) hx)
    refine ⟨hw x, et_yes H3 (Ex.refl _) _ fun H4 e4 => ?_⟩
    refine iteT ?_
    have e14 : Ex H1 H4 := e2.trans e4
    refine w_tup (h1 x H4 (e01.trans e14)) (ex_t (e01.trans e14) hy) H4 (Ex.refl _) _ fun H5 e5 => ?_
    have e15 : Ex H1 H5 := e14.trans e5
    have hD5 : H5 Dl = some (.lst (outer i)) := e5 _ _ (e4 _ _ hD)
    refine ⟨fun k m H' => m = ys.length - k ∧ k ≤ ys.length ∧ Ex H1 H' ∧ H' Dl = some (.lst (outer i ++ (List.range k).map (u i))), ⟨_, rfl, Nat.zero_le _, e15, by rw [hD5]; show _ = some (HO.lst (outer i ++ [])); rw [List.append_nil]⟩, ?_⟩
    rintro k m H6 ⟨rfl, hk, e6, hD6⟩
    by_cases klt : k < ys.length
    · refine .inr ⟨⟨ys, ys[k], ex_t (e01.trans e6) hy, List.getElem?_eq_getElem klt⟩, fun H' => Ex H1 H' ∧ H' Dl = some (.lst (outer i ++ (List.range (k + 1)).map (u i))), fun H' ⟨p1, p2⟩ => ⟨_, by omega, rfl, klt, p1, p2⟩, fun y H7 yl => ?_⟩
      obtain ⟨rfl, hyk⟩ := yl
      have hyk' := hyk ys (ex_t (e01.trans e6) hy)
      refine ⟨hw1 x y, et_yes H7 (Ex.refl _) _ fun H8 e8 => ?_⟩
      refine iteT ?_
      have e18 : Ex H1 H8 := e6.trans e8
      refine he i x k y H8 (e01.trans e18) hxi' hyk' H8 (Ex.refl _) _ fun H9 e9 => ⟨_, e9 _ _ (e8 _ _ hD6), ?_, (e18.trans e9).mut nD, ?_⟩
      · rw [List.length_append, lenO, List.length_map, List.length_range]
        have b1 : i * ys.length ≤ 100 * 100 := Nat.mul_le_mul (by omega) hm
        exact sz_lt (by omega)
      · rw [upd_same, List.range_succ, List.map_append, List.append_assoc]
        rfl
    · have ek : k = ys.length := by omega
      subst ek
      refine .inl ⟨⟨ys, ex_t (e01.trans e6) hy, Nat.le_refl _⟩, e6, ?_⟩
      rw [hD6]
      show _ = some (HO.lst ((List.range (i + 1)).flatMap fun i => (List.range ys.length).map (u i)))
      rw [List.range_succ, List.flatMap_append, List.flatMap_singleton]
  · have ei : i = xs.length := by omega
    subst ei
    exact .inl ⟨⟨xs, ex_t (e01.trans e2) hx, Nat.le_refl _⟩, q Dl H2 (fresh_back e1 nD) (e1.trans e2) hD⟩
/-- tuple(a new list) -/
def rTupOf (K : PySem.W.Frag) : List V → Hp → VK → Prop := fun xs H Q => ∃ p ys, xs = [.ref p] ∧ ((SqL K H p ys ∧ ∀ l, H l = none → Q (.ref l) (upd H l (.tup ys))) ∨ (SqT K H p ys ∧ Q (.ref p) H))
theorem eu_tupN {xs : List V} (h : EvL te σ H xs) : EvU (tCB (rTupOf K) (tCons te tNil)) σ H xs := fun H1 e Q q =>
  h H1 e _ fun p H2 _ e2 hp => ⟨p, xs, rfl, .inl ⟨sq_of hp, fun l nl => q l _ (fresh_back e2 nl) (e2.trans (Ex.new nl)) upd_same⟩⟩
/-- tuple(a list that stands) -/
theorem eu_tupL {xs : List V} {p : Addr} (h : Ev te σ H (.ref p)) (hp : SqL K H p xs) : EvU (tCB (rTupOf K) (tCons te tNil)) σ H xs := fun H1 e Q q =>
  h H1 e _ fun H2 e2 => ⟨p, xs, rfl, .inl ⟨ex_l (e.trans e2) hp, fun l nl => q l _ (fresh_back e2 nl) (e2.trans (Ex.new nl)) upd_same⟩⟩
theorem ep_nats {xs : List V} {ns : List Nat} (h : EvU te σ H xs) (e : xs = ns.map vi) : EvP te σ H (fun v H' => Nats K H' v ns) := fun H1 e1 Q q =>
  h H1 e1 Q fun p H2 _ e2 hp => q (.ref p) H2 e2 ⟨p, rfl, by rw [← e]; exact st_of hp⟩
/-- [x] * n -/
theorem el_rep {xs : List V} {n : Nat} (ha : EvL ta σ H xs) (hb : Ev tb σ H (vi n)) (hz : xs.length * n ≤ 100000) (hn : n ≤ 100000) : EvL (tOp rRep ta tb) σ H (List.replicate n xs).flatten := fun H1 e Q q =>
  ha H1 e _ fun p H2 np e2 hp => hb H2 (e.trans e2) _ fun H3 e3 => ⟨p, (n : Int), xs, rfl, rfl, e3 _ _ hp, by omega, by omega, by rw [Int.toNat_natCast]; exact sz_of hz, fun l nl => by
    rw [Int.toNat_natCast]
    exact q l _ (fresh_back (e2.trans e3) nl) ((e2.trans e3).trans (Ex.new nl)) upd_same⟩
theorem rep1 (n : Nat) (v : V) : (List.replicate n [v]).flatten = List.replicate n v := by
  induction n with
  | zero => rfl
  | succ n ih => rw [List.replicate_succ, List.flatten_cons, ih, List.replicate_succ]; rfl
end
end Dw
end
section
/-! zip of two tuples; tuples of values by what holds of them -/
namespace Dw
open PySem PySem.Spec PyProof.Rows L2 Evl RZ
section
variable {K : PySem.W.Frag} {σ : L2.St} {H H' : Hp} {ta tb te : TE} {t : TT} {x y z v : V} {P : V → Hp → Prop} {D : Ends} {tu tz : TS} {g : TG}
theorem walk_zipT {a b : Addr} {xs ys : List V} (hl : xs.length = ys.length) : Walk (ItzT K a b) xs.length (fun H => SqT K H a xs ∧ SqT K H b ys) (YPair (fun i => xs[i]?) (fun i => ys[i]?)) := by
  refine ⟨fun i H hi q => ⟨xs, ys, xs[i], ys[i]'(by rw [← hl]; exact hi), q.1, q.2, List.getElem?_eq_getElem hi, List.getElem?_eq_getElem (by rw [← hl]; exact hi)⟩, fun H q => ⟨xs, ys, q.1, q.2, .inl (Nat.le_refl _)⟩, fun i H v H' _ q y => ?_⟩
  obtain ⟨T, x1, x2, h1, h2, h3, h4, h5⟩ := y
  exact ⟨T, x1, x2, h1, h2, h3, h4 xs q.1, h5 ys q.2⟩
theorem q_zipT {a b : Addr} {xs ys : List V} {ta : TA} (h : EvA ta σ H [.ref a, .ref b]) (hx : SqT K H a xs) (hy : SqT K H b ys) (hl : xs.length = ys.length) (Pv : Nat → L2.St → Hp → Prop) (h0 : ∀ H1, Ex H H1 → Pv 0 σ H1) (hk : ∀ i σ' H', i ≤ xs.length → Pv i σ' H' → SqT K H' a xs ∧ SqT K H' b ys)
    (hs : ∀ i x y T σ' H', xs[i]? = some x → ys[i]? = some y → Pv i σ' H' → H' T = none → g (.ref T) σ' (upd H' T (.tup [x, y])) fun σ2 H2 => tu { D with nx := Pv (i + 1), ct := Pv (i + 1), bk := tz D } σ2 H2) (hd : ∀ σ' H', Pv xs.length σ' H' → tz D σ' H') :
    tSeq (tFor (iZipA K ta) g tu) tz D σ H :=
  h H (Ex.refl H) _ fun H1 e => ⟨a, b, xs, ys, rfl, .inr ⟨ex_t e hx, ex_t e hy, for_it (D := { D with nx := tz D }) (walk_zipT hl) Pv (h0 H1 e) hk (fun i v σ' H2 H3 hi p y => by
    obtain ⟨T, x1, x2, rfl, nT, rfl, e1, e2⟩ := y
    exact hs i x1 x2 T σ' H2 e1 e2 p nT) hd⟩⟩
/-- (a, b, ..), its items by what holds of them -/
theorem ep_tup {ta : TA} {R : List V → Hp → Prop} {n : Nat} (h : EvAP ta σ H R) (len : ∀ vs H1, R vs H1 → vs.length = n) (hn : n ≤ 100000) (keep : ∀ vs H1 H2, Ex H1 H2 → R vs H1 → R vs H2) :
    EvP (tTup ta) σ H (fun v H' => ∃ p vs, v = .ref p ∧ H' p = some (.tup vs) ∧ R vs H') := fun H1 e Q q =>
  h H1 e _ fun vs H2 e2 r => ⟨by rw [len vs H2 r]; exact sz_of hn, fun p np => q (.ref p) _ (e2.trans (Ex.new np)) ⟨p, vs, rfl, upd_same, keep vs H2 _ (Ex.new np) r⟩⟩
theorem eap_nil : EvAP tNil σ H (fun vs _ => vs = []) := fun H1 _ _ q => q [] H1 (Ex.refl H1) rfl
end
end Dw
end
section
/-! a new tuple told with its own object (so that its methods may be called); tuple.index of ints -/
namespace Dw
open PySem PySem.Spec PyProof.Rows L2 Evl
/-! readings opened by one step -/
section
variable {σ : L2.St} {H : Hp} {ta tb te : TE} {D : Ends} {g : TG}
theorem do_cons {tr : TA} {Q : List V → Hp → Prop} (h : ta σ H fun x H1 => tr σ H1 fun xs H2 => Q (x :: xs) H2) : tCons ta tr σ H Q := h
theorem do_nil {Q : List V → Hp → Prop} (h : Q [] H) : tNil σ H Q := h
theorem do_op {r : R2} {Q : VK} (h : ta σ H fun x H1 => tb σ H1 fun y H2 => r x y H2 Q) : tOp r ta tb σ H Q := h
theorem do_tup {t : TA} {Q : VK} (h : t σ H fun xs H1 => xs.length ≤ sizeLine ∧ ∀ p, H1 p = none → Q (.ref p) (upd H1 p (.tup xs))) : tTup t σ H Q := h
theorem do_lst {t : TA} {Q : VK} (h : t σ H fun xs H1 => xs.length ≤ sizeLine ∧ ∀ p, H1 p = none → Q (.ref p) (upd H1 p (.lst xs))) : tLst t σ H Q := h
theorem do_cb {r : List V → Hp → VK → Prop} {t : TA} {Q : VK} (h : t σ H fun vs H1 => r vs H1 Q) : tCB r t σ H Q := h
theorem do_test {Q : Bool → Hp → Prop} (h : te σ H fun x H' => ∃ k, x = .bl k ∧ Q k H') : tTest te σ H Q := h
theorem do_ret (h : te σ H D.rt) : tRet te D σ H := h
theorem do_asg (h : te σ H fun x H1 => g x σ H1 D.nx) : tAsg te g D σ H := h
theorem do_seq {t u : TS} (h : t { D with nx := u D } σ H) : tSeq t u D σ H := h
theorem do_if {c : TT} {t u : TS} (h : c σ H fun b H1 => if b = true then t D σ H1 else u D σ H1) : tIfS c t u D σ H := h
theorem do_ev {v : V} {Q : VK} (h : Ev te σ H v) (k : ∀ H1, Ex H H1 → Q v H1) : te σ H Q := h H (Ex.refl H) Q k
theorem do_evL {xs : List V} {Q : VK} (h : EvL te σ H xs) (k : ∀ p H1, H p = none → Ex H H1 → H1 p = some (.lst xs) → Q (.ref p) H1) : te σ H Q := h H (Ex.refl H) Q k
theorem do_evU {xs : List V} {Q : VK} (h : EvU te σ H xs) (k : ∀ p H1, H p = none → Ex H H1 → H1 p = some (.tup xs) → Q (.ref p) H1) : te σ H Q := h H (Ex.refl H) Q k
theorem do_evP {P : V → Hp → Prop} {Q : VK} (h : EvP te σ H P) (k : ∀ v H1, Ex H H1 → P v H1 → Q v H1) : te σ H Q := h H (Ex.refl H) Q k
end
section
variable {X : Cx}
def rTupF (K : PySem.W.Frag) : List V → Hp → VK → Prop := fun xs H Q => ∃ p ys, xs = [.ref p] ∧ SqL K H p ys ∧ ∀ l o, H l = none → o.dict = none → Q (.ref l) (upd H l (.frz o (.tup ys)))
theorem call_tupF : CallR X (.type "tuple") (rTupF X.K) := by
  intro pins s σ H xs us Q I r h
  obtain ⟨p, ys, e, isL, q⟩ := h
  subst e
  obtain ⟨u, hu, ru⟩ := vals1 r
  subst hu
  cases (show u = Value.ref p from ru)
  obtain ⟨its, rel, at_, small⟩ := I.list isL
  have many : its.toArray.size ≤ sizeLine := by
    rw [List.size_toArray, ← rel.length]
    exact small
  refine call_tuple_list at_.isList (fun h2 keep => ?_) many
  have J : Inv X pins σ H { s with heap := h2 } := I.kept (t' := s.toks) keep
  let ob : Obj := { cls := .type "tuple", data := .seq its.toArray }
  have got : (h2.push ob).get? h2.objs.size = some ob := Heap.get?_push_size _ rfl
  have okN : ObjOk X.prog X.w (upd H h2.objs.size (.frz ob (.tup ys))) (h2.push ob) h2.objs.size (.frz ob (.tup ys)) := ⟨got, small, its, rel, ob, got, rfl, _, rfl⟩
  have J2 := J.laid (t' := s.toks) (h' := h2.push ob) (fun b o e => Heap.get?_push_of_some _ e) (Nat.le_refl h2.objs.size) okN
  exact ⟨.ref h2.objs.size, _, J2, rfl, q _ ob (J.hok.fresh (Nat.le_refl _)) rfl⟩
theorem ints_of : ∀ {ns : List Int} {us : List Value}, Vals (ns.map V.int) us → IntsAre us ns
  | [], _, .nil => .nil
  | n :: ns, _, .cons (b := u) r t => by
    obtain ⟨tk, e⟩ := (show ∃ t, u = Value.int n t from r)
    subst e
    exact .cons n tk (ints_of t)
end
end Dw
end
section
/-! data of tracked things: what repr and == want of it -/
namespace Dw
open PySem PySem.Spec PyProof.Rows L2 Evl
/-- small data: depth at most k, weight at most W -/
structure Gd (k W : Nat) (d : PyData) : Prop where
  lay : d.canLay0 = true
  dep : d.depth ≤ k
  wgt : d.weight ≤ W
  its : d.intsShort 13 = true
  sho : d.showable = true
theorem Gd.mono {k W k' W' : Nat} {d : PyData} (h : Gd k W d) (a : k ≤ k') (b : W ≤ W') : Gd k' W' d := ⟨h.lay, Nat.le_trans h.dep a, Nat.le_trans h.wgt b, h.its, h.sho⟩
theorem log_low {n : Nat} (h : n ≤ 1000) : n.log2 ≤ 9 := by
  by_cases z : n = 0
  · subst z
    decide
  · exact Nat.le_of_lt_succ ((Nat.log2_lt z).mpr (by have e : 2 ^ 10 = 1024 := by decide
                                                     omega))
theorem gd_int {n : Nat} (h : n ≤ 1000) : Gd 0 10 (.int (n : Int)) := by
  have l := log_low h
  refine ⟨by rw [PyData.canLay0], by rw [PyData.depth]; exact Nat.le_refl _, ?_, ?_, ?_⟩
  · rw [PyData.weight, Int.natAbs_natCast]
    split <;> omega
  · rw [PyData.intsShort]
    exact decide_eq_true (PyData.shown_int_le2 (by omega) (by omega))
  · rw [PyData.showable, Int.natAbs_natCast]
    exact decide_eq_true (by omega)
theorem gd_str {z : Str} (h : ∀ c ∈ z.cps.toList, c < 0x110000) (l : z.cps.size ≤ 100) : Gd 0 100 (.str z) := by
  refine ⟨?_, by rw [PyData.depth]; exact Nat.le_refl _, by rw [PyData.weight]; exact l, by rw [PyData.intsShort], by rw [PyData.showable]⟩
  rw [PyData.canLay0]
  show z.cps.all (· < 0x110000) = true
  rw [Array.all_eq_true]
  intro i hi
  exact decide_eq_true (h _ (by rw [Array.mem_toList_iff]; exact Array.getElem_mem hi))
theorem gd_all {k W : Nat} : ∀ {ds : List PyData}, (∀ d ∈ ds, Gd k W d) → PyData.canLayAll0 ds = true ∧ PyData.depthAll ds ≤ k ∧ PyData.weightAll ds ≤ ds.length * (W + 1) ∧ PyData.intsShortAll 13 ds = true ∧ PyData.showableAll ds = true
  | [], _ => ⟨by rw [PyData.canLayAll0], by rw [PyData.depthAll]; exact Nat.zero_le _, by rw [PyData.weightAll]; exact Nat.zero_le _, by rw [PyData.intsShortAll], by rw [PyData.showableAll]⟩
  | d :: ds, h => by
    obtain ⟨a, b, c, e, f⟩ := gd_all (ds := ds) fun x hx => h x (List.mem_cons_of_mem _ hx)
    have g := h d (List.mem_cons_self ..)
    refine ⟨by rw [PyData.canLayAll0, g.lay, a]; rfl, by rw [PyData.depthAll]; exact Nat.max_le.mpr ⟨g.dep, b⟩, ?_, by rw [PyData.intsShortAll, g.its, e]; rfl, by rw [PyData.showableAll, g.sho, f]; rfl⟩
    have w := g.wgt
    rw [PyData.weightAll, List.length_cons, Nat.succ_mul]
    omega
theorem gd_tup {k W L : Nat} {ds : List PyData} (h : ∀ d ∈ ds, Gd k W d) (l : ds.length ≤ L) : Gd (k + 1) (L * (W + 1)) (.tuple ds) := by
  obtain ⟨a, b, c, e, f⟩ := gd_all h
  exact ⟨by rw [PyData.canLay0]; exact a, by rw [PyData.depth]; omega, by rw [PyData.weight]; exact Nat.le_trans c (Nat.mul_le_mul_right _ l), by rw [PyData.intsShort]; exact e, by rw [PyData.showable]; exact f⟩
theorem gd_lst {k W L : Nat} {ds : List PyData} (h : ∀ d ∈ ds, Gd k W d) (l : ds.length ≤ L) : Gd (k + 1) (L * (W + 1)) (.list ds) := by
  obtain ⟨a, b, c, e, f⟩ := gd_all h
  exact ⟨by rw [PyData.canLay0]; exact a, by rw [PyData.depth]; omega, by rw [PyData.weight]; exact Nat.le_trans c (Nat.mul_le_mul_right _ l), by rw [PyData.intsShort]; exact e, by rw [PyData.showable]; exact f⟩
theorem Gd.len {k W : Nat} {d : PyData} (h : Gd k W d) (a : k ≤ 60) (b : W ≤ 1000000) : d.shown.length ≤ sizeLine := by
  have w := h.wgt
  have dp := h.dep
  have l0 : d.layable0 = true := by
    show (d.canLay0 && decide (d.depth ≤ 64) && decide (d.weight ≤ 2 ^ 20)) = true
    have e : (2 : Nat) ^ 20 = 1048576 := by decide
    rw [h.lay, decide_eq_true (show d.depth ≤ 64 by omega), decide_eq_true (show d.weight ≤ 2 ^ 20 by omega)]
    rfl
  have z := shown_le13 l0 h.its
  rw [sizeLine_eq]
  omega
theorem Gd.shaped {k W : Nat} {d : PyData} (h : Gd k W d) (a : k ≤ 60) : SeqAt.shaped d = true := by
  have dp := h.dep
  show (d.canLay0 && decide (d.depth ≤ 64)) = true
  rw [h.lay, decide_eq_true (show d.depth ≤ 64 by omega)]
  rfl
/-! things of the hand layer as data -/
section
variable {K : PySem.W.Frag} {H : Hp}
def dN (ns : List Nat) : PyData := .tuple (ns.map fun n => .int ((n : Nat) : Int))
theorem dps_nats : ∀ ns : List Nat, DpAll K H (ns.map vi) (ns.map fun n => .int ((n : Nat) : Int))
  | [] => .nil
  | n :: ns => .cons (.int _) (dps_nats ns)
theorem Nats.dp {v : V} {ns : List Nat} (h : Nats K H v ns) : Dp K H v (dN ns) := by
  obtain ⟨a, e, s⟩ := h
  subst e
  exact .tup s (dps_nats ns)
theorem dps_paired {β : Type} {R : V → β → Prop} {f : β → PyData} (h : ∀ v b, R v b → Dp K H v (f b)) : ∀ {vs : List V} {bs : List β}, Paired R vs bs → DpAll K H vs (bs.map f)
  | [], [], .nil => .nil
  | _ :: _, _ :: _, .cons r p => .cons (h _ _ r) (dps_paired h p)
def dM (n : Nat) (ts : List (List Nat)) : PyData := .tuple [.int (n : Int), .tuple (ts.map dN)]
theorem Mdl.dp {v : V} {n : Nat} {ts : List (List Nat)} (h : Mdl K H v n ts) : Dp K H v (dM n ts) := by
  obtain ⟨a, u, e, s, b, vs, e2, s2, p⟩ := h
  subst e e2
  exact .tup s (.cons (.int _) (.cons (.tup s2 (dps_paired (fun _ _ z => Nats.dp z) p)) .nil))
def dS (sg : List (Str × Nat)) : PyData := .tuple (sg.map fun p => .tuple [.str p.1, .int ((p.2 : Nat) : Int)])
theorem Sig.dp {v : V} {sg : List (Str × Nat)} (h : Sig K H v sg) : Dp K H v (dS sg) := by
  obtain ⟨a, vs, e, s, p⟩ := h
  subst e
  refine .tup s (dps_paired (fun v q z => ?_) p)
  obtain ⟨b, e, s⟩ := z
  subst e
  exact .tup s (.cons (.str _) (.cons (.int _) .nil))
theorem gd_nats {ns : List Nat} (h : ∀ n ∈ ns, n ≤ 1000) (l : ns.length ≤ 36) : Gd 1 396 (dN ns) := by
  refine gd_tup (k := 0) (W := 10) (L := 36) (fun d hd => ?_) (by rw [List.length_map]; exact l)
  obtain ⟨n, hn, e⟩ := List.mem_map.mp hd
  subst e
  exact gd_int (h n hn)
end
end Dw
end
section
/-! the mathematics of own orders, over plain lists of natural numbers -/
namespace M25
open M20
/-! begins of orders: the numbers called so far, in the order of their new names -/
/-- a begin of length L -/
structure Bg (n L : Nat) (b : List Nat) : Prop where
  len : b.length = L
  low : ∀ x ∈ b, x < n
  nd : b.Nodup
def free (n : Nat) (b : List Nat) : List Nat := (List.range n).filter fun k => !decide (k ∈ b)
theorem mem_free {n k : Nat} {b : List Nat} : k ∈ free n b ↔ k < n ∧ k ∉ b := by
  unfold free
  rw [List.mem_filter, List.mem_range]
  constructor
  · rintro ⟨a, c⟩
    exact ⟨a, fun z => by rw [decide_eq_true z] at c; cases c⟩
  · rintro ⟨a, c⟩
    exact ⟨a, by rw [decide_eq_false c]; rfl⟩
def ext1 (n : Nat) (bs : List (List Nat)) : List (List Nat) := bs.flatMap fun b => (free n b).map fun k => b ++ [k]
def allc (n : Nat) : Nat → List (List Nat) → List (List Nat)
  | 0, bs => bs
  | k + 1, bs => allc n k (ext1 n bs)
/-- rows of begins, all of one length -/
structure Bgs (n L : Nat) (bs : List (List Nat)) : Prop where
  each : ∀ b ∈ bs, Bg n L b
  nd : bs.Nodup
theorem Bg.le {n L : Nat} {b : List Nat} (h : Bg n L b) : L ≤ n := by
  have := len_le b (List.range n) h.nd fun x hx => List.mem_range.mpr (h.low x hx)
  rw [h.len, List.length_range] at this
  exact this
theorem Bg.snoc {n L k : Nat} {b : List Nat} (h : Bg n L b) (hk : k < n) (m : k ∉ b) : Bg n (L + 1) (b ++ [k]) := ⟨by rw [List.length_append, h.len]; rfl, fun x hx => by
  rcases List.mem_append.mp hx with z | z
  · exact h.low x z
  · rw [List.mem_singleton.mp z]; exact hk, by
  rw [List.nodup_append]
  refine ⟨h.nd, List.nodup_cons.mpr ⟨(by intro z; cases z), List.nodup_nil⟩, fun a ha c hc e => ?_⟩
  rw [List.mem_singleton.mp hc] at e
  exact m (e ▸ ha)⟩
theorem snoc_inj {b c : List Nat} {x y : Nat} (h : b ++ [x] = c ++ [y]) : b = c ∧ x = y := by
  have := List.append_inj' h rfl
  exact ⟨this.1, by simpa using this.2⟩
theorem free_nd (n : Nat) (b : List Nat) : (free n b).Nodup := List.Pairwise.filter _ List.nodup_range
theorem ext1_mem {n : Nat} {bs : List (List Nat)} {c : List Nat} : c ∈ ext1 n bs ↔ ∃ b ∈ bs, ∃ k, k < n ∧ k ∉ b ∧ c = b ++ [k] := by
  unfold ext1
  rw [List.mem_flatMap]
  constructor
  · rintro ⟨b, hb, hc⟩
    obtain ⟨k, hk, rfl⟩ := List.mem_map.mp hc
    obtain ⟨a, d⟩ := mem_free.mp hk
    exact ⟨b, hb, k, a, d, rfl⟩
  · rintro ⟨b, hb, k, a, d, rfl⟩
    exact ⟨b, hb, List.mem_map.mpr ⟨k, mem_free.mpr ⟨a, d⟩, rfl⟩⟩
theorem ext1_nd {n : Nat} : ∀ {bs : List (List Nat)}, bs.Nodup → (ext1 n bs).Nodup
  | [], _ => List.nodup_nil
  | b :: bs, h => by
    rw [List.nodup_cons] at h
    show ((free n b).map (fun k => b ++ [k]) ++ ext1 n bs).Nodup
    rw [List.nodup_append]
    refine ⟨?_, ext1_nd h.2, fun x hx y hy e => ?_⟩
    · rw [List.nodup_iff_pairwise_ne, List.pairwise_map]
      exact (List.nodup_iff_pairwise_ne.mp (free_nd n b)).imp fun z e => z (snoc_inj e).2
    · obtain ⟨k, _, rfl⟩ := List.mem_map.mp hx
      obtain ⟨c, hc, j, _, _, rfl⟩ := ext1_mem.mp hy
      exact h.1 ((snoc_inj e).1 ▸ hc)
theorem Bgs.ext1 {n L : Nat} {bs : List (List Nat)} (h : Bgs n L bs) : Bgs n (L + 1) (ext1 n bs) := ⟨fun c hc => by
  obtain ⟨b, hb, k, a, d, rfl⟩ := ext1_mem.mp hc
  exact (h.each b hb).snoc a d, ext1_nd h.nd⟩
theorem Bgs.allc {n : Nat} : ∀ {k L : Nat} {bs : List (List Nat)}, Bgs n L bs → Bgs n (L + k) (allc n k bs)
  | 0, _, _, h => h
  | k + 1, L, bs, h => by
    have := Bgs.allc (k := k) h.ext1
    rw [Nat.add_assoc, Nat.add_comm 1 k] at this
    exact this
/-! orders told by what is called 0, 1, .. -/
theorem bg_ord {n : Nat} {q : List Nat} : Bg n n q ↔ Ord n q := by
  constructor
  · intro h
    refine ⟨h.len, fun k hk => h.low _ (List.mem_iff_getElem?.mpr ⟨k, g_eq (by rw [h.len]; exact hk)⟩), fun j k hj hk e => ?_⟩
    have a := g_eq (l := q) (k := j) (by rw [h.len]; exact hj)
    have b := g_eq (l := q) (k := k) (by rw [h.len]; exact hk)
    rw [e, ← b] at a
    have hj' : j < q.length := by rw [h.len]; exact hj
    have hk' : k < q.length := by rw [h.len]; exact hk
    rw [List.getElem?_eq_getElem hj', List.getElem?_eq_getElem hk'] at a
    have p := List.pairwise_iff_getElem.mp (List.nodup_iff_pairwise_ne.mp h.nd)
    rcases Nat.lt_trichotomy j k with z | z | z
    · exact absurd (Option.some.inj a) (p j k hj' hk' z)
    · exact z
    · exact absurd (Option.some.inj a).symm (p k j hk' hj' z)
  · intro h
    refine ⟨h.len, fun x hx => ?_, ?_⟩
    · obtain ⟨i, hi, e⟩ := List.mem_iff_getElem.mp hx
      have a := g_eq hi
      rw [List.getElem?_eq_getElem hi, e] at a
      rw [Option.some.inj a]
      exact h.low i (by rw [← h.len]; exact hi)
    · rw [List.nodup_iff_pairwise_ne, List.pairwise_iff_getElem]
      intro i j hi hj hij e
      have a := g_eq hi
      have b := g_eq hj
      rw [List.getElem?_eq_getElem hi, e] at a
      rw [List.getElem?_eq_getElem hj] at b
      have := h.inj i j (by rw [← h.len]; exact hi) (by rw [← h.len]; exact hj) ((Option.some.inj a).symm.trans (Option.some.inj b))
      omega
/-- an order goes on from one of the begins -/
def On (bs : List (List Nat)) (q : List Nat) : Prop := ∃ b ∈ bs, b <+: q
theorem on_ext1 {n L : Nat} {bs : List (List Nat)} {q : List Nat} (h : Bgs n L bs) (lt : L < n) (hq : Bg n n q) : On (ext1 n bs) q ↔ On bs q := by
  constructor
  · rintro ⟨c, hc, p⟩
    obtain ⟨b, hb, k, _, _, rfl⟩ := ext1_mem.mp hc
    exact ⟨b, hb, (List.prefix_append b [k]).trans p⟩
  · rintro ⟨b, hb, r, e⟩
    cases r with
    | nil =>
      rw [List.append_nil] at e
      have a := (h.each b hb).len
      have c := hq.len
      rw [← e] at c
      omega
    | cons k r =>
      have nd := hq.nd
      rw [← e] at nd
      have m : k ∉ b := fun z => (List.nodup_append.mp nd).2.2 k z k (List.mem_cons_self ..) rfl
      have lo : k < n := hq.low k (by rw [← e]; exact List.mem_append_right _ (List.mem_cons_self ..))
      exact ⟨b ++ [k], ext1_mem.mpr ⟨b, hb, k, lo, m, rfl⟩, r, by rw [List.append_assoc]; exact e⟩
theorem on_allc {n : Nat} {q : List Nat} (hq : Bg n n q) : ∀ {k L : Nat} {bs : List (List Nat)}, Bgs n L bs → L + k ≤ n → (On (allc n k bs) q ↔ On bs q)
  | 0, _, _, _, _ => Iff.rfl
  | k + 1, L, bs, h, le => (on_allc hq h.ext1 (by omega)).trans (on_ext1 h (by omega) hq)
theorem prefix_full {n : Nat} {b q : List Nat} (h : Bg n n b) (hq : Bg n n q) (p : b <+: q) : b = q := by
  obtain ⟨r, e⟩ := p
  have a := h.len
  have c := hq.len
  rw [← e, List.length_append] at c
  cases r with
  | nil =>
    rw [List.append_nil] at e
    exact e
  | cons k r =>
    rw [List.length_cons] at c
    omega
theorem on_full {n : Nat} {bs : List (List Nat)} {q : List Nat} (h : Bgs n n bs) (hq : Bg n n q) : On bs q ↔ q ∈ bs := ⟨fun ⟨b, hb, p⟩ => prefix_full (h.each b hb) hq p ▸ hb, fun m => ⟨q, m, List.prefix_rfl⟩⟩
theorem ext1_ne {n L : Nat} {bs : List (List Nat)} (h : Bgs n L bs) (ne : bs ≠ []) (lt : L < n) : ext1 n bs ≠ [] := by
  cases bs with
  | nil => exact absurd rfl ne
  | cons b bs =>
    have hb := h.each b (List.mem_cons_self ..)
    have : free n b ≠ [] := fun z => by
      have := len_le (List.range n) b List.nodup_range fun x hx => by
        by_cases m : x ∈ b
        · exact m
        · have : x ∈ free n b := mem_free.mpr ⟨List.mem_range.mp hx, m⟩
          rw [z] at this
          cases this
      rw [List.length_range, hb.len] at this
      omega
    cases f : free n b with
    | nil => exact absurd f this
    | cons k r =>
      intro z
      have : b ++ [k] ∈ ext1 n (b :: bs) := ext1_mem.mpr ⟨b, List.mem_cons_self .., k, (mem_free.mp (by rw [f]; exact List.mem_cons_self ..)).1, (mem_free.mp (by rw [f]; exact List.mem_cons_self ..)).2, rfl⟩
      rw [z] at this
      cases this
theorem allc_ne {n : Nat} : ∀ {k L : Nat} {bs : List (List Nat)}, Bgs n L bs → bs ≠ [] → L + k ≤ n → allc n k bs ≠ []
  | 0, _, _, _, ne, _ => ne
  | k + 1, L, bs, h, ne, le => by
    show allc n k (ext1 n bs) ≠ []
    exact allc_ne (k := k) (bs := ext1 n bs) h.ext1 (ext1_ne h ne (by omega)) (by omega)
/-! the worth of a cell -/
/-- the place of old numbers -/
def at_ (n : Nat) (b args : List Nat) : Nat := args.foldl (fun a k => a * n + g b k) 0
def old (n : Nat) (t args b : List Nat) : Nat := g t (at_ n b args)
def told (n : Nat) (t args b : List Nat) : Nat := if old n t args b ∈ b then b.idxOf (old n t args b) else b.length
def kept (n : Nat) (t args b : List Nat) : List Nat := if old n t args b ∈ b then b else b ++ [old n t args b]
def val (n : Nat) (t args q : List Nat) : Nat := q.idxOf (old n t args q)
theorem at_prefix {n : Nat} {b q args : List Nat} (p : b <+: q) (h : ∀ k ∈ args, k < b.length) : at_ n q args = at_ n b args := by
  obtain ⟨r, rfl⟩ := p
  unfold at_
  generalize 0 = a
  induction args generalizing a with
  | nil => rfl
  | cons k ks ih =>
    have e : g (b ++ r) k = g b k := by
      show (b ++ r).getD k 0 = b.getD k 0
      rw [List.getD_eq_getElem?_getD, List.getD_eq_getElem?_getD, List.getElem?_append_left (h k (List.mem_cons_self ..))]
    rw [List.foldl_cons, List.foldl_cons, e]
    exact ih (fun j hj => h j (List.mem_cons_of_mem _ hj)) _
theorem old_prefix {n : Nat} {t b q args : List Nat} (p : b <+: q) (h : ∀ k ∈ args, k < b.length) : old n t args q = old n t args b := by
  unfold old
  rw [at_prefix p h]
theorem idx_prefix {b q : List Nat} {x : Nat} (p : b <+: q) (m : x ∈ b) : q.idxOf x = b.idxOf x := by
  obtain ⟨r, rfl⟩ := p
  rw [List.idxOf_append, if_pos m]
/-- what an order has at a cell, by its begin -/
theorem val_told {n : Nat} {t b q args : List Nat} (p : b <+: q) (h : ∀ k ∈ args, k < b.length) : (old n t args b ∈ b → val n t args q = told n t args b) ∧ (old n t args b ∉ b → b.length ≤ val n t args q ∧ told n t args b = b.length) := by
  have e := old_prefix (n := n) (t := t) p h
  unfold val told
  rw [e]
  refine ⟨fun m => by rw [if_pos m, idx_prefix p m], fun m => ⟨?_, if_neg m⟩⟩
  obtain ⟨r, rfl⟩ := p
  rw [List.idxOf_append, if_neg m]
  omega
theorem told_le {n L : Nat} {t b args : List Nat} (h : Bg n L b) : told n t args b ≤ L := by
  unfold told
  split
  · rename_i m
    have := List.idxOf_lt_length_of_mem m
    rw [h.len] at this
    omega
  · rw [h.len]
    exact Nat.le_refl _
/-- the least that is told, the first ahead -/
def best (n : Nat) (t args : List Nat) : List (List Nat) → Nat → Nat
  | [], m => m
  | b :: bs, m => best n t args bs (min m (told n t args b))
theorem best_le {n : Nat} {t args : List Nat} : ∀ {bs : List (List Nat)} {m : Nat}, best n t args bs m ≤ m
  | [], _ => Nat.le_refl _
  | b :: bs, m => Nat.le_trans (best_le (bs := bs)) (Nat.min_le_left ..)
theorem best_mem {n : Nat} {t args : List Nat} : ∀ {bs : List (List Nat)} {m : Nat}, ∀ b ∈ bs, best n t args bs m ≤ told n t args b
  | [], _, _, h => nomatch h
  | c :: bs, m, b, h => by
    rcases List.mem_cons.mp h with rfl | h
    · exact Nat.le_trans (best_le (bs := bs)) (Nat.min_le_right ..)
    · exact best_mem (bs := bs) b h
theorem best_is {n : Nat} {t args : List Nat} : ∀ {bs : List (List Nat)} {m : Nat}, best n t args bs m = m ∨ ∃ b ∈ bs, told n t args b = best n t args bs m
  | [], _ => .inl rfl
  | b :: bs, m => by
    show best n t args bs (min m (told n t args b)) = m ∨ ∃ c ∈ b :: bs, told n t args c = best n t args bs (min m (told n t args b))
    rcases best_is (bs := bs) (m := min m (told n t args b)) with e | ⟨c, hc, e⟩
    · rw [e]
      rcases Nat.le_total m (told n t args b) with z | z
      · exact .inl (Nat.min_eq_left z)
      · exact .inr ⟨b, List.mem_cons_self .., (Nat.min_eq_right z).symm⟩
    · exact .inr ⟨c, List.mem_cons_of_mem _ hc, e⟩
def lst (n : Nat) (t args : List Nat) (bs : List (List Nat)) : List (List Nat) := (bs.filter fun b => decide (told n t args b = best n t args bs n)).map (kept n t args)
theorem lst_mem {n : Nat} {t args : List Nat} {bs : List (List Nat)} {c : List Nat} : c ∈ lst n t args bs ↔ ∃ b ∈ bs, told n t args b = best n t args bs n ∧ kept n t args b = c := by
  unfold lst
  rw [List.mem_map]
  constructor
  · rintro ⟨b, hb, e⟩
    obtain ⟨x, y⟩ := List.mem_filter.mp hb
    exact ⟨b, x, of_decide_eq_true y, e⟩
  · rintro ⟨b, x, y, e⟩
    exact ⟨b, List.mem_filter.mpr ⟨x, decide_eq_true y⟩, e⟩
/-- the cell's table and its arguments are of the size -/
structure Cell (n L : Nat) (t args : List Nat) : Prop where
  low : ∀ b, Bg n L b → old n t args b < n
  arg : ∀ k ∈ args, k < L
theorem told_cases {n L : Nat} {t args b : List Nat} (h : Bg n L b) : (old n t args b ∈ b ∧ told n t args b < L ∧ kept n t args b = b) ∨ (old n t args b ∉ b ∧ told n t args b = L ∧ kept n t args b = b ++ [old n t args b]) := by
  unfold told kept
  by_cases m : old n t args b ∈ b
  · rw [if_pos m, if_pos m]
    have := List.idxOf_lt_length_of_mem m
    rw [h.len] at this
    exact .inl ⟨m, this, rfl⟩
  · rw [if_neg m, if_neg m]
    exact .inr ⟨m, h.len, rfl⟩
theorem lst_bgs {n L : Nat} {t args : List Nat} {bs : List (List Nat)} (h : Bgs n L bs) (c : Cell n L t args) : ∃ L2, L2 ≤ L + 1 ∧ L ≤ L2 ∧ Bgs n L2 (lst n t args bs) := by
  by_cases e : best n t args bs n < L
  · refine ⟨L, by omega, Nat.le_refl _, fun d hd => ?_, ?_⟩
    · obtain ⟨b, hb, x, rfl⟩ := lst_mem.mp hd
      rcases told_cases (t := t) (args := args) (h.each b hb) with ⟨_, _, k⟩ | ⟨_, y, _⟩
      · rw [k]
        exact h.each b hb
      · omega
    · unfold lst
      rw [List.nodup_iff_pairwise_ne, List.pairwise_map]
      refine (List.Pairwise.filter _ (List.nodup_iff_pairwise_ne.mp h.nd)).imp_of_mem fun {x y} hx hy ne k => ?_
      obtain ⟨x1, x2⟩ := List.mem_filter.mp hx
      obtain ⟨y1, y2⟩ := List.mem_filter.mp hy
      have x3 := of_decide_eq_true x2
      have y3 := of_decide_eq_true y2
      rcases told_cases (t := t) (args := args) (h.each x x1) with ⟨_, _, kx⟩ | ⟨_, z, _⟩
      · rcases told_cases (t := t) (args := args) (h.each y y1) with ⟨_, _, ky⟩ | ⟨_, z, _⟩
        · rw [kx, ky] at k
          exact ne k
        · omega
      · omega
  · refine ⟨L + 1, Nat.le_refl _, by omega, fun d hd => ?_, ?_⟩
    · obtain ⟨b, hb, x, rfl⟩ := lst_mem.mp hd
      rcases told_cases (t := t) (args := args) (h.each b hb) with ⟨_, y, _⟩ | ⟨m, _, k⟩
      · omega
      · rw [k]
        exact (h.each b hb).snoc (c.low b (h.each b hb)) m
    · unfold lst
      rw [List.nodup_iff_pairwise_ne, List.pairwise_map]
      refine (List.Pairwise.filter _ (List.nodup_iff_pairwise_ne.mp h.nd)).imp_of_mem fun {x y} hx hy ne k => ?_
      obtain ⟨x1, x2⟩ := List.mem_filter.mp hx
      obtain ⟨y1, y2⟩ := List.mem_filter.mp hy
      have x3 := of_decide_eq_true x2
      have y3 := of_decide_eq_true y2
      rcases told_cases (t := t) (args := args) (h.each x x1) with ⟨_, z, _⟩ | ⟨_, _, kx⟩
      · omega
      · rcases told_cases (t := t) (args := args) (h.each y y1) with ⟨_, z, _⟩ | ⟨_, _, ky⟩
        · omega
        · rw [kx, ky] at k
          exact ne (snoc_inj k).1
theorem lst_ne {n L : Nat} {t args : List Nat} {bs : List (List Nat)} (h : Bgs n L bs) (c : Cell n L t args) (ne : bs ≠ []) : lst n t args bs ≠ [] := by
  cases bs with
  | nil => exact absurd rfl ne
  | cons b0 r =>
    have h0 := h.each b0 (List.mem_cons_self ..)
    have : ∃ b ∈ b0 :: r, told n t args b = best n t args (b0 :: r) n := by
      rcases best_is (n := n) (t := t) (args := args) (bs := b0 :: r) (m := n) with e | z
      · have := best_mem (n := n) (t := t) (args := args) (bs := b0 :: r) (m := n) b0 (List.mem_cons_self ..)
        have h1 : told n t args b0 ≤ L := told_le h0
        have h2 := h0.le
        exact ⟨b0, List.mem_cons_self .., by omega⟩
      · exact z
    obtain ⟨b, hb, e⟩ := this
    intro z
    have : kept n t args b ∈ lst n t args (b0 :: r) := lst_mem.mpr ⟨b, hb, e, rfl⟩
    rw [z] at this
    cases this
/-- the step: on goes what has the least there too -/
theorem on_lst {n L : Nat} {t args : List Nat} {bs : List (List Nat)} {q : List Nat} (h : Bgs n L bs) (c : Cell n L t args) (hq : Bg n n q) : On (lst n t args bs) q ↔ (On bs q ∧ val n t args q = best n t args bs n) := by
  constructor
  · rintro ⟨d, hd, p⟩
    obtain ⟨b, hb, x, rfl⟩ := lst_mem.mp hd
    have h1 := h.each b hb
    have ha : ∀ k ∈ args, k < b.length := fun k hk => by rw [h1.len]; exact c.arg k hk
    rcases told_cases (t := t) (args := args) h1 with ⟨m, y, k⟩ | ⟨m, y, k⟩
    · rw [k] at p
      exact ⟨⟨b, hb, p⟩, by rw [(val_told p ha).1 m, x]⟩
    · rw [k] at p
      have pb : b <+: q := (List.prefix_append b _).trans p
      refine ⟨⟨b, hb, pb⟩, ?_⟩
      rw [← x, y]
      unfold val
      rw [old_prefix pb ha, idx_prefix p (List.mem_append_right _ (List.mem_singleton.mpr rfl)), List.idxOf_append, if_neg m, List.idxOf_cons_self, h1.len, Nat.zero_add]
  · rintro ⟨⟨b, hb, p⟩, e⟩
    have h1 := h.each b hb
    have ha : ∀ k ∈ args, k < b.length := fun k hk => by rw [h1.len]; exact c.arg k hk
    have mn := best_mem (n := n) (t := t) (args := args) (m := n) b hb
    rcases told_cases (t := t) (args := args) h1 with ⟨m, y, k⟩ | ⟨m, y, k⟩
    · refine ⟨b, lst_mem.mpr ⟨b, hb, ?_, k⟩, p⟩
      rw [← (val_told p ha).1 m, e]
    · have v := ((val_told (n := n) (t := t) p ha).2 m).1
      rw [h1.len, e] at v
      have bt : told n t args b = best n t args bs n := by omega
      refine ⟨kept n t args b, lst_mem.mpr ⟨b, hb, bt, rfl⟩, ?_⟩
      rw [k]
      -- the L-th of q is the old number
      obtain ⟨r, rfl⟩ := p
      unfold val at e
      have oe := old_prefix (n := n) (t := t) (List.prefix_append b r) ha
      rw [oe, List.idxOf_append, if_neg m, ← bt, y, h1.len] at e
      have i0 : r.idxOf (old n t args b) = 0 := by omega
      cases r with
      | nil =>
        have := hq.len
        rw [List.append_nil, h1.len] at this
        have lo := c.low b h1
        have mm := hits n b (bg_ord.mp (by rw [List.append_nil] at hq; exact hq)) _ lo
        exact absurd mm m
      | cons x r =>
        rw [List.idxOf_cons] at i0
        cases z : (x == old n t args b) with
        | true =>
          have z2 : x = old n t args b := by simpa using z
          rw [z2]
          exact ⟨r, by rw [List.append_assoc]; rfl⟩
        | false =>
          rw [z] at i0
          exact absurd i0 (Nat.succ_ne_zero _)
end M25
end
section
/-! the mathematics of own orders: what is the same for all, tables of cells, the orders that lead to the least -/
namespace M25
open M20
/-! ### what two orders leave, all leave -/
def sw (n i : Nat) : List Nat := (List.range n).map fun k => if k = i then i + 1 else if k = i + 1 then i else k
def rot (n : Nat) : List Nat := (List.range n).map fun k => if k + 1 = n then 0 else k + 1
theorem sw_g {n i k : Nat} (hk : k < n) : g (sw n i) k = if k = i then i + 1 else if k = i + 1 then i else k := g_map hk
theorem rot_g {n k : Nat} (hk : k < n) : g (rot n) k = if k + 1 = n then 0 else k + 1 := g_map hk
theorem sw_ord {n i : Nat} (h : i + 1 < n) : Ord n (sw n i) := ⟨by simp [sw], fun k hk => by
  rw [sw_g hk]
  split
  · omega
  · split <;> omega, fun j k hj hk e => by
  rw [sw_g hj, sw_g hk] at e
  split at e <;> split at e <;> (try split at e) <;> (try split at e) <;> omega⟩
theorem rot_ord {n : Nat} : Ord n (rot n) := ⟨by simp [rot], fun k hk => by
  rw [rot_g hk]
  split <;> omega, fun j k hj hk e => by
  rw [rot_g hj, rot_g hk] at e
  split at e <;> split at e <;> omega⟩
theorem ord_ext {n : Nat} {a b : List Nat} (ha : Ord n a) (hb : Ord n b) (h : ∀ k, k < n → g a k = g b k) : a = b := ext (by rw [ha.len, hb.len]) fun k hk => h k (by rw [← ha.len]; exact hk)
theorem bkrot_g {n k : Nat} (hk : k < n) : g (bk (rot n)) k = if k = 0 then n - 1 else k - 1 := by
  have a := g_bk (rot_ord (n := n)) hk
  have l := bk_low (rot_ord (n := n)) hk
  have m : (if k = 0 then n - 1 else k - 1) < n := by split <;> omega
  refine (rot_ord (n := n)).inj _ _ l m (a.trans ?_)
  rw [rot_g m]
  split
  · split <;> omega
  · split <;> omega
theorem sw_succ {n i : Nat} (h : i + 2 < n) : cmp (cmp (bk (rot n)) (sw n i)) (rot n) = sw n (i + 1) := by
  have hb := bk_ord (rot_ord (n := n))
  have hs := sw_ord (n := n) (i := i) (by omega)
  have h2 := cmp_ord hb hs
  refine ord_ext (cmp_ord h2 rot_ord) (sw_ord (by omega)) fun k hk => ?_
  rw [cmp_g h2 hk, cmp_g hb hk, sw_g hk]
  rw [bkrot_g hk]
  have m : (if k = 0 then n - 1 else k - 1) < n := by split <;> omega
  rw [sw_g m]
  generalize e : (if k = 0 then n - 1 else k - 1) = z at m ⊢
  have low : (if z = i then i + 1 else if z = i + 1 then i else z) < n := by split <;> (try split) <;> omega
  rw [rot_g low]
  split at e <;> split <;> split <;> (try split) <;> (try split) <;> (try split) <;> omega
/-- an order leaves a table as it is -/
def Stab (n p : Nat) (t o : List Nat) : Prop := Ord n o ∧ ren n p o t = t
theorem Stab.cmp {n p : Nat} {t a b : List Nat} (hp : p ≤ 2) (ht : Tab n p t) (ha : Stab n p t a) (hb : Stab n p t b) : Stab n p t (cmp a b) := ⟨cmp_ord ha.1 hb.1, by rw [← ren_ren hp ha.1 hb.1 ht, ha.2, hb.2]⟩
theorem Stab.bk {n p : Nat} {t a : List Nat} (hp : p ≤ 2) (ht : Tab n p t) (ha : Stab n p t a) : Stab n p t (bk a) := ⟨bk_ord ha.1, by
  have := ren_back hp ha.1 ht
  rw [ha.2] at this
  exact this⟩
theorem stab_sw {n p : Nat} {t : List Nat} (hp : p ≤ 2) (ht : Tab n p t) (hr : Stab n p t (rot n)) (h0 : Stab n p t (sw n 0)) : ∀ i, i + 1 < n → Stab n p t (sw n i)
  | 0, _ => h0
  | i + 1, h => by
    rw [← sw_succ (by omega)]
    exact ((hr.bk hp ht).cmp hp ht (stab_sw hp ht hr h0 i (by omega))).cmp hp ht hr
theorem sw_sw {n i : Nat} {o : List Nat} (ho : Ord n o) (h : i + 1 < n) : cmp (cmp o (sw n i)) (sw n i) = o := by
  have hs := sw_ord h
  refine ord_ext (cmp_ord (cmp_ord ho hs) hs) ho fun k hk => ?_
  have l := ho.low k hk
  have l2 := hs.low _ l
  rw [cmp_g (cmp_ord ho hs) hk, cmp_g ho hk, sw_g l2, sw_g l]
  split <;> split <;> (try split) <;> (try split) <;> omega
theorem stab_up {n p : Nat} {t : List Nat} (hp : p ≤ 2) (ht : Tab n p t) (hs : ∀ i, i + 1 < n → Stab n p t (sw n i)) : ∀ m, m ≤ n → ∀ o, Ord n o → (∀ k, m ≤ k → k < n → g o k = k) → Stab n p t o
  | 0, _, o, ho, h => by
    have : o = List.range n := ord_ext ho (id_ord n) fun k hk => by rw [h k (Nat.zero_le _) hk, g_id hk]
    subst this
    exact ⟨id_ord n, ren_id hp ht⟩
  | m + 1, le, o, ho, h => by
    have key : ∀ d o, Ord n o → (∀ k, m + 1 ≤ k → k < n → g o k = k) → g o m + d = m → Stab n p t o := by
      intro d
      induction d with
      | zero =>
        intro o ho h e
        refine stab_up hp ht hs m (by omega) o ho fun k a b => ?_
        by_cases z : k = m
        · rw [z]; exact e
        · exact h k (by omega) b
      | succ d ih =>
        intro o ho h e
        have lt : g o m + 1 < n := by omega
        have ho2 := cmp_ord ho (sw_ord lt)
        have low : m < n := by omega
        have s2 : Stab n p t (M20.cmp o (sw n (g o m))) := by
          refine ih _ ho2 (fun k a b => ?_) ?_
          · rw [cmp_g ho b, h k a b, sw_g b, if_neg (by omega), if_neg (by omega)]
          · rw [cmp_g ho low, sw_g (ho.low m low), if_pos rfl]
            omega
        have := s2.cmp hp ht (hs _ lt)
        rw [sw_sw ho lt] at this
        exact this
    have low : m < n := by omega
    have le2 : g o m ≤ m := by
      by_cases z : g o m ≤ m
      · exact z
      · have a := h (g o m) (by omega) (ho.low m low)
        have := ho.inj _ _ (ho.low m low) low a
        omega
    exact key (m - g o m) o ho h (by omega)
theorem stab_all {n p : Nat} {t o : List Nat} (hp : p ≤ 2) (ht : Tab n p t) (hr : ren n p (rot n) t = t) (h0 : 1 < n → ren n p (sw n 0) t = t) (ho : Ord n o) : ren n p o t = t := by
  by_cases z : 1 < n
  · exact (stab_up hp ht (stab_sw hp ht ⟨rot_ord, hr⟩ ⟨sw_ord z, h0 z⟩) n (Nat.le_refl _) o ho fun k a b => by omega).2
  · have : o = List.range n := ord_ext ho (id_ord n) fun k hk => by
      have := ho.low k hk
      rw [g_id hk]
      omega
    rw [this]
    exact ren_id hp ht
def same (n p : Nat) (t : List Nat) : Bool := decide (n = 1) || (decide (ren n p (sw n 0) t = t) && decide (ren n p (rot n) t = t))
theorem same_all {n p : Nat} {t o : List Nat} (hp : p ≤ 2) (ht : Tab n p t) (h : same n p t = true) (ho : Ord n o) : ren n p o t = t := by
  unfold same at h
  rcases Bool.or_eq_true_iff.mp h with z | z
  · have n1 : n = 1 := of_decide_eq_true z
    subst n1
    have : o = List.range 1 := ord_ext ho (id_ord 1) fun k hk => by
      have := ho.low k hk
      rw [g_id hk]
      omega
    rw [this]
    exact ren_id hp ht
  · have ⟨a, b⟩ := Bool.and_eq_true_iff.mp z
    exact stab_all hp ht (of_decide_eq_true b) (fun _ => of_decide_eq_true a) ho
/-! ### rows of numbers -/
def rows (n : Nat) : Nat → List (List Nat)
  | 0 => [[]]
  | p + 1 => (rows n p).flatMap fun r => (List.range n).map fun k => r ++ [k]
theorem rows_of {n : Nat} : ∀ {p : Nat} {r : List Nat}, r ∈ rows n p → r.length = p ∧ ∀ k ∈ r, k < n
  | 0, r, h => by
    rw [List.mem_singleton.mp h]
    exact ⟨rfl, fun k z => by cases z⟩
  | p + 1, r, h => by
    obtain ⟨s, hs, h2⟩ := List.mem_flatMap.mp h
    obtain ⟨k, hk, rfl⟩ := List.mem_map.mp h2
    obtain ⟨a, b⟩ := rows_of hs
    refine ⟨by rw [List.length_append, a]; rfl, fun j hj => ?_⟩
    rcases List.mem_append.mp hj with z | z
    · exact b j z
    · rw [List.mem_singleton.mp z]
      exact List.mem_range.mp hk
theorem flatr {α : Type} (m : Nat) (hm : 0 < m) (f : Nat → Nat → α) : ∀ n, ((List.range n).flatMap fun i => (List.range m).map (f i)) = (List.range (n * m)).map fun s => f (s / m) (s % m)
  | 0 => by rw [Nat.zero_mul]; rfl
  | n + 1 => by
    rw [List.range_succ, List.flatMap_append, flatr m hm f n, List.flatMap_singleton, Nat.add_mul, Nat.one_mul, List.range_add, List.map_append, List.map_map]
    congr 1
    apply List.map_congr_left
    intro k hk
    have hk' := List.mem_range.mp hk
    show f n k = f ((n * m + k) / m) ((n * m + k) % m)
    rw [Nat.add_comm (n * m) k, Nat.add_mul_div_right _ _ hm, Nat.div_eq_of_lt hk', Nat.zero_add, Nat.add_mul_mod_self_right, Nat.mod_eq_of_lt hk']
theorem rows_1 (n : Nat) : rows n 1 = (List.range n).map fun k => [k] := by
  show ([[]] : List (List Nat)).flatMap _ = _
  rw [List.flatMap_singleton]
  rfl
theorem rows_2 {n : Nat} (h : 0 < n) : rows n 2 = (List.range (n * n)).map fun s => [s / n, s % n] := by
  show (rows n 1).flatMap _ = _
  rw [rows_1, List.flatMap_map]
  exact flatr n h (fun i j => [i, j]) n
theorem row_ren {n p : Nat} {t q : List Nat} (hp : p ≤ 2) (h1 : 0 < n) (ht : Tab n p t) (hq : Bg n n q) : (rows n p).map (fun a => val n t a q) = ren n p (bk q) t := by
  have ho := bg_ord.mp hq
  have bb := bk_bk ho
  have gb : ∀ x, x < n → g (bk q) x = q.idxOf x := fun x hx => by
    unfold M20.bk
    exact g_map (by rw [hq.len]; exact hx)
  unfold ren
  rw [bb]
  match p, hp with
  | 0, _ =>
    show [val n t [] q] = [g (bk q) (g t (src n 0 q 0))]
    have l := ht.low 0 (by simp)
    unfold src
    rw [if_pos rfl, gb _ l]
    rfl
  | 1, _ =>
    rw [rows_1, List.map_map, Nat.pow_one]
    apply List.map_congr_left
    intro k hk
    have hk' := List.mem_range.mp hk
    show val n t [k] q = g (bk q) (g t (src n 1 q k))
    unfold src
    rw [if_neg (by decide), if_pos rfl, gb _ (ht.low _ (by rw [Nat.pow_one]; exact ho.low k hk'))]
    show q.idxOf (g t (0 * n + g q k)) = _
    rw [Nat.zero_mul, Nat.zero_add]
  | 2, _ =>
    rw [rows_2 h1, List.map_map, Nat.pow_two]
    apply List.map_congr_left
    intro k hk
    have hk' := List.mem_range.mp hk
    show val n t [k / n, k % n] q = g (bk q) (g t (src n 2 q k))
    have a := ho.low _ (Nat.div_lt_of_lt_mul hk')
    have b := ho.low _ (Nat.mod_lt k h1)
    unfold src
    rw [if_neg (by decide), if_neg (by decide), gb _ (ht.low _ (by rw [Nat.pow_two]; exact mul_lt a b))]
    show q.idxOf (g t ((0 * n + g q (k / n)) * n + g q (k % n))) = _
    rw [Nat.zero_mul, Nat.zero_add]
theorem at_low {n : Nat} {b : List Nat} : ∀ {args : List Nat} {a m : Nat}, (∀ k ∈ args, g b k < n) → a < n ^ m → args.foldl (fun a k => a * n + g b k) a < n ^ (m + args.length)
  | [], _, _, _, h => h
  | k :: ks, a, m, hk, h => by
    have := at_low (args := ks) (a := a * n + g b k) (m := m + 1) (fun j hj => hk j (List.mem_cons_of_mem _ hj)) (by
      have z := hk k (List.mem_cons_self ..)
      have : (a + 1) * n ≤ n ^ m * n := Nat.mul_le_mul_right n h
      rw [Nat.add_mul, Nat.one_mul] at this
      rw [Nat.pow_succ]
      omega)
    rw [List.foldl_cons, List.length_cons, show m + (ks.length + 1) = m + 1 + ks.length by omega]
    exact this
theorem cell_of {n p L : Nat} {t args : List Nat} (ht : Tab n p t) (ha : args.length = p) (lt : ∀ k ∈ args, k < L) : Cell n L t args := ⟨fun b hb => by
  refine ht.low _ ?_
  have := at_low (n := n) (b := b) (args := args) (a := 0) (m := 0) (fun k hk => by
    have z := lt k hk
    rw [← hb.len] at z
    have e := g_eq z
    rw [List.getElem?_eq_getElem z] at e
    rw [← Option.some.inj e]
    exact hb.low _ (List.getElem_mem z)) (by simp)
  rw [Nat.zero_add, ha] at this
  exact this, lt⟩
/-! ### the steps -/
def need (args : List Nat) : Nat := args.foldr (fun k m => max (k + 1) m) 0
theorem need_lt : ∀ {args : List Nat}, ∀ k ∈ args, k < need args
  | [], _, h => nomatch h
  | j :: r, k, h => by
    show k < max (j + 1) (need r)
    rcases List.mem_cons.mp h with rfl | h
    · omega
    · have := need_lt k h
      omega
theorem need_le {m : Nat} : ∀ {args : List Nat}, (∀ k ∈ args, k < m) → need args ≤ m
  | [], _ => Nat.zero_le _
  | j :: r, h => by
    show max (j + 1) (need r) ≤ m
    have := need_le (args := r) fun k hk => h k (List.mem_cons_of_mem _ hk)
    have := h j (List.mem_cons_self ..)
    omega
def ln (bs : List (List Nat)) : Nat := (bs.headD []).length
def grow (n many : Nat) (bs : List (List Nat)) : List (List Nat) := allc n (many - ln bs) bs
def stepV (n : Nat) (t : List Nat) (bs : List (List Nat)) (args : List Nat) : Nat := best n t args (grow n (need args) bs) n
def stepB (n : Nat) (t : List Nat) (bs : List (List Nat)) (args : List Nat) : List (List Nat) := lst n t args (grow n (need args) bs)
/-- begins as they go on -/
def Good (n : Nat) (bs : List (List Nat)) : Prop := ∃ L, L ≤ n ∧ Bgs n L bs ∧ bs ≠ []
theorem ln_is {n L : Nat} {bs : List (List Nat)} (h : Bgs n L bs) (ne : bs ≠ []) : ln bs = L := by
  cases bs with
  | nil => exact absurd rfl ne
  | cons b r => exact (h.each b (List.mem_cons_self ..)).len
theorem Good.bgs {n : Nat} {bs : List (List Nat)} (h : Good n bs) : Bgs n (ln bs) bs := by
  obtain ⟨L, a, b, c⟩ := h
  rw [ln_is b c]
  exact b
theorem Good.ln_le {n : Nat} {bs : List (List Nat)} (h : Good n bs) : ln bs ≤ n := by
  obtain ⟨L, a, b, c⟩ := h
  rw [ln_is b c]
  exact a
theorem Good.ne {n : Nat} {bs : List (List Nat)} (h : Good n bs) : bs ≠ [] := let ⟨_, _, _, c⟩ := h; c
theorem grow_good {n many : Nat} {bs : List (List Nat)} (h : Good n bs) (le : many ≤ n) : Good n (grow n many bs) ∧ many ≤ ln (grow n many bs) ∧ ∀ q, Bg n n q → (On (grow n many bs) q ↔ On bs q) := by
  have a := h.bgs
  have c := h.ln_le
  have g1 : Bgs n (ln bs + (many - ln bs)) (grow n many bs) := a.allc
  have g2 : grow n many bs ≠ [] := allc_ne a h.ne (by omega)
  refine ⟨⟨_, by omega, g1, g2⟩, ?_, fun q hq => on_allc hq a (by omega)⟩
  rw [ln_is g1 g2]
  omega
theorem step_good {n p : Nat} {t args : List Nat} {bs : List (List Nat)} (h : Good n bs) (ht : Tab n p t) (ha : args ∈ rows n p) : Good n (stepB n t bs args) ∧ ∀ q, Bg n n q → (On (stepB n t bs args) q ↔ On bs q ∧ val n t args q = stepV n t bs args) := by
  obtain ⟨r1, r2⟩ := rows_of ha
  obtain ⟨g1, g2, g3⟩ := grow_good (many := need args) h (need_le r2)
  have c : Cell n (ln (grow n (need args) bs)) t args := cell_of ht r1 fun k hk => Nat.lt_of_lt_of_le (need_lt k hk) g2
  obtain ⟨L2, a1, a2, a3⟩ := lst_bgs (t := t) (args := args) g1.bgs c
  have ne := lst_ne g1.bgs c g1.ne
  refine ⟨⟨L2, ?_, a3, ne⟩, fun q hq => ?_⟩
  · cases e : lst n t args (grow n (need args) bs) with
    | nil => exact absurd e ne
    | cons b r => exact (a3.each b (by rw [e]; exact List.mem_cons_self ..)).le
  · rw [← g3 q hq]
    exact on_lst g1.bgs c hq
def rowV (n : Nat) (t : List Nat) : List (List Nat) → List (List Nat) → List Nat
  | _, [] => []
  | bs, a :: as => stepV n t bs a :: rowV n t (stepB n t bs a) as
def rowB (n : Nat) (t : List Nat) : List (List Nat) → List (List Nat) → List (List Nat)
  | bs, [] => bs
  | bs, a :: as => rowB n t (stepB n t bs a) as
theorem row_good {n p : Nat} {t : List Nat} (ht : Tab n p t) : ∀ {as bs : List (List Nat)}, Good n bs → (∀ a ∈ as, a ∈ rows n p) → Good n (rowB n t bs as) ∧ ∀ q, Bg n n q → (On (rowB n t bs as) q ↔ On bs q ∧ as.map (fun a => val n t a q) = rowV n t bs as)
  | [], bs, h, _ => ⟨h, fun q _ => ⟨fun z => ⟨z, rfl⟩, fun z => z.1⟩⟩
  | a :: as, bs, h, ha => by
    obtain ⟨s1, s2⟩ := step_good h ht (ha a (List.mem_cons_self ..))
    obtain ⟨r1, r2⟩ := row_good ht (as := as) s1 fun b hb => ha b (List.mem_cons_of_mem _ hb)
    refine ⟨r1, fun q hq => ?_⟩
    show On (rowB n t (stepB n t bs a) as) q ↔ On bs q ∧ val n t a q :: as.map (fun a => val n t a q) = stepV n t bs a :: rowV n t (stepB n t bs a) as
    rw [r2 q hq, s2 q hq, List.cons.injEq, and_assoc]
/-! ### tables, one behind the other -/
abbrev PT := Nat × List Nat
def TabsOk (n : Nat) (l : List PT) : Prop := ∀ x ∈ l, x.1 ≤ 2 ∧ Tab n x.1 x.2
def tabB (n : Nat) : List PT → List (List Nat) → List (List Nat)
  | [], bs => bs
  | x :: r, bs => if same n x.1 x.2 = true then tabB n r bs else tabB n r (rowB n x.2 bs (rows n x.1))
def tabV (n : Nat) : List PT → List (List Nat) → List (List Nat)
  | [], _ => []
  | x :: r, bs => if same n x.1 x.2 = true then x.2 :: tabV n r bs else rowV n x.2 bs (rows n x.1) :: tabV n r (rowB n x.2 bs (rows n x.1))
def led_all (n : Nat) (l : List PT) (o : List Nat) : List (List Nat) := l.map fun x => ren n x.1 o x.2
theorem tab_good {n : Nat} (h1 : 0 < n) : ∀ {l : List PT} {bs : List (List Nat)}, TabsOk n l → Good n bs → Good n (tabB n l bs) ∧ ∀ q, Bg n n q → (On (tabB n l bs) q ↔ On bs q ∧ led_all n l (bk q) = tabV n l bs)
  | [], bs, _, h => ⟨h, fun q _ => ⟨fun z => ⟨z, rfl⟩, fun z => z.1⟩⟩
  | x :: r, bs, ok, h => by
    obtain ⟨xp, xt⟩ := ok x (List.mem_cons_self ..)
    have okr : TabsOk n r := fun y hy => ok y (List.mem_cons_of_mem _ hy)
    unfold tabB tabV
    by_cases s : same n x.1 x.2 = true
    · rw [if_pos s, if_pos s]
      obtain ⟨a, b⟩ := tab_good h1 okr h
      refine ⟨a, fun q hq => ?_⟩
      rw [b q hq]
      show _ ↔ On bs q ∧ ren n x.1 (bk q) x.2 :: led_all n r (bk q) = x.2 :: tabV n r bs
      rw [same_all xp xt s (bk_ord (bg_ord.mp hq)), List.cons.injEq]
      exact ⟨fun z => ⟨z.1, rfl, z.2⟩, fun z => ⟨z.1, z.2.2⟩⟩
    · rw [if_neg s, if_neg s]
      obtain ⟨a, b⟩ := row_good xt (as := rows n x.1) h fun _ z => z
      obtain ⟨c, d⟩ := tab_good h1 okr a
      refine ⟨c, fun q hq => ?_⟩
      rw [d q hq, b q hq, row_ren xp h1 xt hq]
      show _ ↔ On bs q ∧ ren n x.1 (bk q) x.2 :: led_all n r (bk q) = _
      rw [List.cons.injEq, and_assoc]
theorem start_good (n : Nat) : Good n [[]] := ⟨0, Nat.zero_le _, ⟨fun b hb => by
  rw [List.mem_singleton.mp hb]
  exact ⟨rfl, fun x z => (by cases z), List.nodup_nil⟩, List.nodup_cons.mpr ⟨(by intro z; cases z), List.nodup_nil⟩⟩, fun z => by cases z⟩
theorem start_on (q : List Nat) : On [[]] q := ⟨[], List.mem_singleton.mpr rfl, q, rfl⟩
/-- the orders that lead to the least, told by what is called 0, 1, .. -/
def fin (n : Nat) (l : List PT) : List (List Nat) := grow n n (tabB n l [[]])
def least (n : Nat) (l : List PT) : List (List Nat) := tabV n l [[]]
theorem fin_good {n : Nat} (h1 : 0 < n) {l : List PT} (ok : TabsOk n l) : Good n (fin n l) ∧ ln (fin n l) = n := by
  obtain ⟨a, b, _⟩ := grow_good (many := n) (tab_good h1 ok (start_good n)).1 (Nat.le_refl n)
  exact ⟨a, Nat.le_antisymm a.ln_le b⟩
theorem fin_mem {n : Nat} (h1 : 0 < n) {l : List PT} (ok : TabsOk n l) {q : List Nat} : q ∈ fin n l ↔ Bg n n q ∧ led_all n l (bk q) = least n l := by
  obtain ⟨a, b⟩ := tab_good h1 ok (start_good n)
  obtain ⟨c, d⟩ := fin_good h1 ok
  have e := c.bgs
  rw [d] at e
  have go : ∀ q, Bg n n q → (q ∈ fin n l ↔ led_all n l (bk q) = least n l) := fun q hq => by
    rw [← on_full e hq]
    show On (grow n n (tabB n l [[]])) q ↔ _
    rw [(grow_good (many := n) a (Nat.le_refl n)).2.2 q hq, b q hq]
    exact ⟨fun z => z.2, fun z => ⟨start_on q, z⟩⟩
  exact ⟨fun m => ⟨e.each q m, (go q (e.each q m)).mp m⟩, fun z => (go q z.1).mpr z.2⟩
theorem fin_ne {n : Nat} (h1 : 0 < n) {l : List PT} (ok : TabsOk n l) : fin n l ≠ [] := (fin_good h1 ok).1.ne
end M25
end
section
/-! own orders: a group, its number, its lots -/
namespace M25
open M20
theorem cmp_assoc {n : Nat} {a b c : List Nat} (ha : Ord n a) (hb : Ord n b) (hc : Ord n c) : cmp (cmp a b) c = cmp a (cmp b c) := by
  refine ord_ext (cmp_ord (cmp_ord ha hb) hc) (cmp_ord ha (cmp_ord hb hc)) fun k hk => ?_
  rw [cmp_g (cmp_ord ha hb) hk, cmp_g ha hk, cmp_g ha hk, cmp_g hb (ha.low k hk)]
theorem cmp_id {n : Nat} {a : List Nat} (ha : Ord n a) : cmp a (List.range n) = a := ord_ext (cmp_ord ha (id_ord n)) ha fun k hk => by rw [cmp_g ha hk, g_id (ha.low k hk)]
/-- an order that leaves all tables as they are -/
def Own (n : Nat) (l : List PT) (a : List Nat) : Prop := Ord n a ∧ ∀ x ∈ l, ren n x.1 a x.2 = x.2
theorem own_id {n : Nat} {l : List PT} (ok : TabsOk n l) : Own n l (List.range n) := ⟨id_ord n, fun x hx => ren_id (ok x hx).1 (ok x hx).2⟩
theorem Own.bk {n : Nat} {l : List PT} (ok : TabsOk n l) {a : List Nat} (h : Own n l a) : Own n l (bk a) := ⟨bk_ord h.1, fun x hx => (Stab.bk (ok x hx).1 (ok x hx).2 ⟨h.1, h.2 x hx⟩).2⟩
theorem Own.cmp {n : Nat} {l : List PT} (ok : TabsOk n l) {a b : List Nat} (h : Own n l a) (h2 : Own n l b) : Own n l (cmp a b) := ⟨cmp_ord h.1 h2.1, fun x hx => (Stab.cmp (ok x hx).1 (ok x hx).2 ⟨h.1, h.2 x hx⟩ ⟨h2.1, h2.2 x hx⟩).2⟩
def orders (n : Nat) (l : List PT) : List (List Nat) := (fin n l).map bk
theorem orders_mem {n : Nat} (h1 : 0 < n) {l : List PT} (ok : TabsOk n l) {a : List Nat} : a ∈ orders n l ↔ Ord n a ∧ led_all n l a = least n l := by
  unfold orders
  rw [List.mem_map]
  constructor
  · rintro ⟨q, hq, rfl⟩
    obtain ⟨b, c⟩ := (fin_mem h1 ok).mp hq
    exact ⟨bk_ord (bg_ord.mp b), c⟩
  · rintro ⟨b, c⟩
    exact ⟨M20.bk a, (fin_mem h1 ok).mpr ⟨bg_ord.mpr (bk_ord b), by rw [bk_bk b]; exact c⟩, bk_bk b⟩
theorem orders_ne {n : Nat} (h1 : 0 < n) {l : List PT} (ok : TabsOk n l) : orders n l ≠ [] := fun z => fin_ne h1 ok (List.map_eq_nil_iff.mp z)
def first (os : List (List Nat)) : List Nat := os.headD []
theorem first_mem {os : List (List Nat)} (h : os ≠ []) : first os ∈ os := by
  cases os with
  | nil => exact absurd rfl h
  | cons a r => exact List.mem_cons_self ..
def own (n : Nat) (l : List PT) : List (List Nat) := (orders n l).map fun a => cmp a (bk (first (orders n l)))
theorem own_mem {n : Nat} (h1 : 0 < n) {l : List PT} (ok : TabsOk n l) {a : List Nat} : a ∈ own n l ↔ Own n l a := by
  obtain ⟨f1, f2⟩ := (orders_mem h1 ok).mp (first_mem (orders_ne h1 ok))
  unfold own
  generalize first (orders n l) = f at f1 f2 ⊢
  rw [List.mem_map]
  constructor
  · rintro ⟨o, ho, rfl⟩
    obtain ⟨o1, o2⟩ := (orders_mem h1 ok).mp ho
    refine ⟨cmp_ord o1 (bk_ord f1), fun x hx => ?_⟩
    have e : led_all n l o = led_all n l f := o2.trans f2.symm
    have e2 := List.map_inj_left.mp e x hx
    rw [← ren_ren (ok x hx).1 o1 (bk_ord f1) (ok x hx).2, e2]
    exact ren_back (ok x hx).1 f1 (ok x hx).2
  · rintro ⟨a1, a2⟩
    refine ⟨cmp a f, (orders_mem h1 ok).mpr ⟨cmp_ord a1 f1, f2 ▸ List.map_inj_left.mpr fun x hx => ?_⟩, ?_⟩
    · rw [← ren_ren (ok x hx).1 a1 f1 (ok x hx).2, a2 x hx]
    · rw [cmp_assoc a1 f1 (bk_ord f1), cmp_bk f1, cmp_id a1]
theorem own_len (n : Nat) (l : List PT) : (own n l).length = (orders n l).length := by unfold own; rw [List.length_map]
/-! ### their number -/
def fact : Nat → Nat
  | 0 => 1
  | k + 1 => fact k * (k + 1)
theorem free_len {n L : Nat} {b : List Nat} (h : Bg n L b) : (free n b).length = n - L := by
  have nd : (free n b ++ b).Nodup := List.nodup_append.mpr ⟨free_nd n b, h.nd, fun x hx y hy e => (mem_free.mp hx).2 (e ▸ hy)⟩
  have a := len_le (free n b ++ b) (List.range n) nd fun x hx => List.mem_range.mpr (by
    rcases List.mem_append.mp hx with z | z
    · exact (mem_free.mp z).1
    · exact h.low x z)
  have c := len_le (List.range n) (free n b ++ b) List.nodup_range fun x hx => by
    by_cases z : x ∈ b
    · exact List.mem_append_right _ z
    · exact List.mem_append_left _ (mem_free.mpr ⟨List.mem_range.mp hx, z⟩)
  rw [List.length_append, List.length_range, h.len] at a c
  omega
theorem ext1_len {n L : Nat} : ∀ {bs : List (List Nat)}, (∀ b ∈ bs, Bg n L b) → (ext1 n bs).length = bs.length * (n - L)
  | [], _ => by simp [ext1]
  | b :: bs, h => by
    show ((free n b).map (fun k => b ++ [k]) ++ ext1 n bs).length = _
    rw [List.length_append, List.length_map, free_len (h b (List.mem_cons_self ..)), ext1_len fun c hc => h c (List.mem_cons_of_mem _ hc), List.length_cons, Nat.add_mul, Nat.one_mul, Nat.add_comm]
theorem allc_len {n : Nat} : ∀ {k L : Nat} {bs : List (List Nat)}, Bgs n L bs → L + k = n → (allc n k bs).length = bs.length * fact k
  | 0, _, bs, _, _ => (Nat.mul_one _).symm
  | k + 1, L, bs, h, e => by
    show (allc n k (ext1 n bs)).length = _
    rw [allc_len h.ext1 (by omega), ext1_len h.each, show n - L = k + 1 by omega, fact, Nat.mul_assoc, Nat.mul_comm (k + 1)]
def all_ (n : Nat) : List (List Nat) := allc n n [[]]
theorem all_bgs (n : Nat) : Bgs n n (all_ n) := by
  have := (start_good n).bgs.allc (k := n)
  rw [show ln [[]] = 0 from rfl, Nat.zero_add] at this
  exact this
theorem all_len (n : Nat) : (all_ n).length = fact n := by
  have := allc_len (k := n) (start_good n).bgs (by rw [show ln [[]] = 0 from rfl, Nat.zero_add])
  rw [show ([[]] : List (List Nat)).length = 1 from rfl, Nat.one_mul] at this
  exact this
theorem all_mem {n : Nat} {a : List Nat} : a ∈ all_ n ↔ Ord n a := by
  constructor
  · exact fun h => bg_ord.mp ((all_bgs n).each a h)
  · intro h
    have hq := bg_ord.mpr h
    exact (on_full (all_bgs n) hq).mp ((on_allc hq (k := n) (start_good n).bgs (by rw [show ln [[]] = 0 from rfl]; omega)).mpr (start_on a))
/-! ### led over by an order -/
/-! ### lots -/
def Rel (n : Nat) (l : List PT) (k j : Nat) : Prop := ∃ a, Own n l a ∧ g a k = j
theorem rel_refl {n : Nat} {l : List PT} (ok : TabsOk n l) {k : Nat} (hk : k < n) : Rel n l k k := ⟨_, own_id ok, g_id hk⟩
def orb (n : Nat) (os : List (List Nat)) (k : Nat) : List Nat := (List.range n).filter fun j => os.any fun a => decide (g a k = j)
theorem orb_mem {n : Nat} (h1 : 0 < n) {l : List PT} (ok : TabsOk n l) {os : List (List Nat)} (hos : ∀ a, a ∈ os ↔ Own n l a) {k j : Nat} : j ∈ orb n os k ↔ j < n ∧ Rel n l k j := by
  unfold orb
  rw [List.mem_filter, List.mem_range, List.any_eq_true]
  constructor
  · rintro ⟨a, b, hb, c⟩
    exact ⟨a, b, (hos b).mp hb, of_decide_eq_true c⟩
  · rintro ⟨a, b, hb, c⟩
    exact ⟨a, b, (hos b).mpr hb, decide_eq_true c⟩
theorem orb_up (n : Nat) (os : List (List Nat)) (k : Nat) : (orb n os k).Pairwise (· < ·) := List.Pairwise.filter _ List.pairwise_lt_range
def lots (n : Nat) (os : List (List Nat)) : List (List Nat) := ((List.range n).filter fun k => decide ((orb n os k).headD 0 = k)).map (orb n os)
end M25
end
section
/-! comprehensions whose items are told by what holds of them (new things at each turn) -/
namespace Dw
open PySem PySem.Spec PyProof.Rows L2 Evl
theorem ifT {a b : Prop} (h : a) : if true = true then a else b := h
theorem ifF {a b : Prop} (h : b) : if false = true then a else b := h
/-- a new list, by what holds of its items -/
def EvLP (te : TE) (σ : L2.St) (H : Hp) (R : List V → Hp → Prop) : Prop := ∀ H1, Ex H H1 → ∀ Q : VK, (∀ p ws H2, H1 p = none → Ex H1 H2 → H2 p = some (.lst ws) → R ws H2 → Q (.ref p) H2) → te σ H1 Q
/-- all that is no list stays -/
def EN (H H' : Hp) : Prop := ∀ a u, (∀ xs, u ≠ .lst xs) → H a = some u → H' a = some u
theorem EN.refl {H : Hp} : EN H H := fun _ _ _ h => h
theorem EN.trans {H H1 H2 : Hp} (a : EN H H1) (b : EN H1 H2) : EN H H2 := fun x u n h => b x u n (a x u n h)
theorem EN.of {H H' : Hp} (e : Evl.Ex H H') : EN H H' := fun a u _ h => e a u h
theorem EN.upd {H H' : Hp} {l : Addr} {xs ys : List V} (e : EN H H') (h : H' l = some (.lst xs)) : EN H (upd H' l (.lst ys)) := fun a u n q => by
  have q2 := e a u n q
  have ne : a ≠ l := fun z => by
    rw [z, h] at q2
    exact n xs (Option.some.inj q2).symm
  rw [upd_ne ne]
  exact q2
theorem EN.et {K : PySem.W.Frag} {H H' : Hp} (e : EN H H') : ET K H H' := fun a xs q => by
  rcases q with (q | ⟨o, q⟩) | q
  · exact .inl (.inl (e _ _ (fun _ z => by cases z) q))
  · exact .inl (.inr ⟨o, e _ _ (fun _ z => by cases z) q⟩)
  · exact .inr q
/-- what holds of a thing is told by what is no list -/
def StbB {β : Type} (B : V → β → Hp → Prop) : Prop := ∀ v b H H', EN H H' → B v b H → B v b H'
section
variable {K : PySem.W.Frag} {σ : L2.St} {H H' : Hp} {ta tb te : TE} {t : TT} {x y z v : V} {P : V → Hp → Prop} {D : Ends} {tu tz : TS} {g : TG} {R : List V → Hp → Prop}
theorem EvLP.mono (e : Ex H H') (h : EvLP te σ H R) : EvLP te σ H' R := fun H1 a Q q => h H1 (e.trans a) Q q
theorem EvLP.imp {R' : List V → Hp → Prop} (h : EvLP te σ H R) (i : ∀ ws H', Ex H H' → R ws H' → R' ws H') : EvLP te σ H R' := fun H1 e Q q => h H1 e Q fun p ws H2 np e2 hp r => q p ws H2 np e2 hp (i ws H2 (e.trans e2) r)
theorem s_asgLP {i : Nat} (h : EvLP te σ H R) (k : ∀ p ws H1, H p = none → Ex H H1 → H1 p = some (.lst ws) → R ws H1 → D.nx (σ.set i (some (.ref p))) H1) : tAsg te (gName i) D σ H := h H (Ex.refl H) _ k
theorem s_retLP (h : EvLP te σ H R) (k : ∀ p ws H1, H p = none → Ex H H1 → H1 p = some (.lst ws) → R ws H1 → D.rt (.ref p) H1) : tRet te D σ H := h H (Ex.refl H) _ k
theorem paired_snoc' {α β : Type} {R : α → β → Prop} {x : α} {y : β} (r : R x y) {xs : List α} {ys : List β} (h : Paired R xs ys) : Paired R (xs ++ [x]) (ys ++ [y]) := Dw.paired_snoc (R := R) r h
theorem paired_at {α β : Type} {R : α → β → Prop} : ∀ {xs : List α} {ys : List β} {i : Nat} {x : α}, Paired R xs ys → xs[i]? = some x → ∃ y, ys[i]? = some y ∧ R x y
  | _, _, _, _, .nil, h => by simp at h
  | _, _, 0, _, .cons a _, h => by
    have e := Option.some.inj h
    subst e
    exact ⟨_, rfl, a⟩
  | _, _, i + 1, _, .cons _ b, h => by
    obtain ⟨y, e, r⟩ := paired_at (i := i) b h
    exact ⟨y, e, r⟩
theorem paired_app {α β : Type} {R : α → β → Prop} {xs xs2 : List α} {ys ys2 : List β} (h : Paired R xs ys) (h2 : Paired R xs2 ys2) : Paired R (xs ++ xs2) (ys ++ ys2) := by
  induction h with
  | nil => exact h2
  | cons a r ih => exact .cons a ih
theorem paired_map {α β γ : Type} {R : α → β → Prop} {S : α → γ → Prop} {f : β → γ} (h : ∀ a b, R a b → S a (f b)) : ∀ {xs : List α} {ys : List β}, Paired R xs ys → Paired S xs (ys.map f)
  | _, _, .nil => .nil
  | _, _, .cons a b => .cons (h _ _ a) (paired_map h b)
theorem filt_step {n : Nat} {f : Nat → Bool} : (List.range (n + 1)).filter f = (List.range n).filter f ++ if f n = true then [n] else [] := by
  rw [List.range_succ, List.filter_append]
  congr 1
  cases h : f n
  · rw [List.filter_cons_of_neg (by rw [h]; decide), List.filter_nil]; rfl
  · rw [List.filter_cons_of_pos h, List.filter_nil]; rfl
theorem filt_len (n : Nat) (f : Nat → Bool) : ((List.range n).filter f).length ≤ n := by
  have := List.length_filter_le f (List.range n)
  rw [List.length_range] at this
  exact this
/-- a comprehension by what its items keep -/
theorem elp_lc {J : It} {n : Nat} {G : Hp → Prop} {Y : Nat → Hp → V → Hp → Prop} {wi : TI} {tt : TT} {vs : List Nat} (w : Walk J n G Y) (hw0 : ∀ H0, Ex H H0 → ∀ R : It → Hp → Prop, (∀ H1, Ex H0 H1 → R J H1) → wi σ H0 R) (hG : ∀ H1, Ex H H1 → G H1) (hn : n ≤ 40000)
    (f : Nat → Bool) (B : V → Nat → Hp → Prop) (hB : StbB B)
    (hs : ∀ i x H1 H2, i < n → Ex H H1 → Y i H1 x H2 → Ex H1 H2 ∧ ∀ Φ : L2.St → Hp → Prop, (∀ σ2, wipe σ2 vs = wipe σ vs → EvT tt σ2 H2 (f i) → (f i = true → EvP te σ2 H2 (fun v H' => B v i H')) → Φ σ2 H2) → g x (wipe σ vs) H2 Φ) :
    EvLP (tLc wi g tt te vs) σ H (fun ws H' => Paired (fun v i => B v i H') ws ((List.range n).filter f)) := by
  intro H0 e0 Q q
  refine hw0 H0 e0 _ fun H1 e1 Dl nD => lc_it w (fun i H' => Ex H1 H' ∧ ∃ ws, H' Dl = some (.lst ws) ∧ Paired (fun v i => B v i H') ws ((List.range i).filter f)) ⟨Ex.new nD, [], upd_same, .nil⟩ (fun i H' _ ⟨e, _⟩ => hG H' ((e0.trans e1).trans e)) (fun i x H2 H3 hi ⟨e2, ws, hD, pw⟩ y => ?_) (fun H2 ⟨e2, ws, hD, pw⟩ => q Dl ws H2 (fresh_back e1 nD) (e1.trans e2) hD pw)
  have e02 := (e0.trans e1).trans e2
  obtain ⟨e3, go⟩ := hs i x H2 H3 hi e02 y
  refine go _ fun σ2 hw ht he => ⟨hw, ht H3 (Ex.refl _) _ fun H4 e4 => ?_⟩
  have e24 := e3.trans e4
  cases hf : f i with
  | true =>
    refine ifT (he hf H4 e4 _ fun v H5 e5 bv => ?_)
    have hD5 := (e24.trans e5) _ _ hD
    have lw : ws.length ≤ i := by rw [paired_len pw]; exact filt_len i f
    refine ⟨ws, hD5, sz_lt (by omega), (e2.trans (e24.trans e5)).mut nD, ws ++ [v], upd_same, ?_⟩
    rw [filt_step, hf, if_pos rfl]
    have et : EN H5 (upd H5 Dl (.lst (ws ++ [v]))) := EN.refl.upd hD5
    have pw2 : Paired (fun z i => B z i (upd H5 Dl (.lst (ws ++ [v])))) ws ((List.range i).filter f) := paired_imp (fun a b r => hB a b _ _ (EN.trans (EN.of (e24.trans e5)) et) r) pw
    exact paired_snoc' (xs := ws) (x := v) (y := i) (hB _ _ _ _ et bv) pw2
  | false =>
    refine ifF ⟨e2.trans e24, ws, e24 _ _ hD, ?_⟩
    rw [filt_step, hf]
    show Paired _ ws ((List.range i).filter f ++ [])
    rw [List.append_nil]
    exact paired_imp (fun a b r => hB a b _ _ (EN.of e24) r) pw
theorem range_all (n : Nat) : (List.range n).filter (fun _ => true) = List.range n := List.filter_eq_self.mpr fun _ _ => rfl
/-- over a list, one name -/
theorem elp_lcL {a : Addr} {xs : List V} {tl : TE} {tt : TT} {j : Nat} {vs : List Nat} (h : Ev tl σ H (.ref a)) (hx : SqL K H a xs) (hn : xs.length ≤ 40000) (f : Nat → Bool) (B : V → Nat → Hp → Prop) (hB : StbB B) (hwp : ∀ x, wipe ((wipe σ vs).set j (some x)) vs = wipe σ vs)
    (hs : ∀ i x H1, Ex H H1 → xs[i]? = some x → EvT tt ((wipe σ vs).set j (some x)) H1 (f i) ∧ (f i = true → EvP te ((wipe σ vs).set j (some x)) H1 (fun v H' => B v i H'))) :
    EvLP (tLc (iList K tl) (gName j) tt te vs) σ H (fun ws H' => Paired (fun v i => B v i H') ws ((List.range xs.length).filter f)) :=
  elp_lc (walk_list (K := K) (a := a) (xs := xs)) (fun H0 e0 R r => h H0 e0 _ fun H1 e1 => ⟨a, rfl, ⟨xs, ex_l (e0.trans e1) hx⟩, r H1 e1⟩) (fun H1 e1 => ex_l e1 hx) hn f B hB fun i x H1 H2 hi e y => by
    obtain ⟨rfl, hxi⟩ := y
    exact ⟨Ex.refl _, fun Φ k => k _ (hwp x) (hs i x _ e hxi).1 (hs i x _ e hxi).2⟩
theorem elp_lcR {ta : TA} {n : Nat} {tt : TT} {j : Nat} {vs : List Nat} (h : EvA ta σ H [vi n]) (hn : n ≤ 40000) (f : Nat → Bool) (B : V → Nat → Hp → Prop) (hB : StbB B) (hwp : ∀ x, wipe ((wipe σ vs).set j (some x)) vs = wipe σ vs)
    (hs : ∀ i H1, i < n → Ex H H1 → EvT tt ((wipe σ vs).set j (some (vi i))) H1 (f i) ∧ (f i = true → EvP te ((wipe σ vs).set j (some (vi i))) H1 (fun v H' => B v i H'))) :
    EvLP (tLc (iRng1 ta) (gName j) tt te vs) σ H (fun ws H' => Paired (fun v i => B v i H') ws ((List.range n).filter f)) :=
  elp_lc (walk_range (n := n)) (fun H0 e0 R r => w_rng h hn H0 e0 R r) (fun _ _ => trivial) hn f B hB fun i x H1 H2 hi e y => by
    obtain ⟨rfl, hxi⟩ := y
    have e0 : x = vi i := hxi.trans (by show V.int _ = V.int _; rw [Int.zero_add])
    subst e0
    exact ⟨Ex.refl _, fun Φ k => k _ (hwp _) (hs i _ hi e).1 (hs i _ hi e).2⟩
/-- of two fors: a list, then a range (or what is walked in the like way) -/
theorem elp_lc2 {a : Addr} {xs : List V} {tl : TE} {ta : TA} {m j j1 : Nat} {vs vs1 : List Nat} (h : Ev tl σ H (.ref a)) (hx : SqL K H a xs) (h1 : ∀ x H1, Ex H H1 → EvA ta ((wipe σ vs).set j (some x)) H1 [vi m]) (hn : xs.length ≤ 10000) (hm : m ≤ 9)
    (B : V → Nat × Nat → Hp → Prop) (hB : StbB B) (hw : ∀ x, wipe ((wipe σ vs).set j (some x)) vs = wipe σ vs) (hw1 : ∀ x y, wipe ((wipe ((wipe σ vs).set j (some x)) vs1).set j1 (some y)) vs1 = wipe ((wipe σ vs).set j (some x)) vs1)
    (he : ∀ i x k H1, Ex H H1 → xs[i]? = some x → k < m → EvP te ((wipe ((wipe σ vs).set j (some x)) vs1).set j1 (some (vi k))) H1 (fun v H' => B v (i, k) H')) :
    EvLP (tLc2 (iList K tl) (gName j) tYes (iRng1 ta) (gName j1) tYes te vs vs1) σ H (fun ws H' => Paired (fun v p => B v p H') ws ((List.range xs.length).flatMap fun i => (List.range m).map fun k => (i, k))) := by
  intro H0 e Q q
  refine h H0 e _ fun H1 e1 => ⟨a, rfl, ⟨xs, ex_l (e.trans e1) hx⟩, fun Dl nD => ?_⟩
  have e01 : Ex H H1 := e.trans e1
  let outer : Nat → List (Nat × Nat) := fun i => (List.range i).flatMap fun i => (List.range m).map fun k => (i, k)
  have lenO : ∀ i, (outer i).length = i * m := by
    intro i
    induction i with
    | zero => show (0 : Nat) = 0 * m; rw [Nat.zero_mul]
    | succ i ih =>
      show ((List.range (i + 1)).flatMap _).length = _
      rw [List.range_succ, List.flatMap_append, List.length_append]
      have e3 : ((List.range i).flatMap fun i => (List.range m).map fun k => (i, k)).length = i * m := ih
      rw [e3, List.flatMap_singleton, List.length_map, List.length_range, Nat.add_mul, Nat.one_mul]
  refine ⟨fun i r H' => r = xs.length - i ∧ i ≤ xs.length ∧ Ex H1 H' ∧ ∃ ws, H' Dl = some (.lst ws) ∧ Paired (fun v p => B v p H') ws (outer i), ⟨_, rfl, Nat.zero_le _, Ex.new nD, [], upd_same, .nil⟩, ?_⟩
  rintro i r H2 ⟨rfl, hi, e2, ws, hD, pw⟩
  by_cases hlt : i < xs.length
  · refine .inr ⟨⟨xs, xs[i], ex_l (e01.trans e2) hx, List.getElem?_eq_getElem hlt⟩, fun H' => Ex H1 H' ∧ ∃ ws, H' Dl = some (.lst ws) ∧ Paired (fun v p => B v p H') ws (outer (i + 1)), fun H' ⟨p1, p2⟩ => ⟨_, by omega, rfl, hlt, p1, p2⟩, fun x H3 yl => ?_⟩
    obtain ⟨rfl, hxi⟩ := yl
    have hxi' := hxi xs (ex_l (e01.trans e2) hx)
    refine ⟨hw x, et_yes H3 (Ex.refl _) _ fun H4 e4 => ?_⟩
    refine ifT ?_
    have e14 : Ex H1 H4 := e2.trans e4
    refine w_rng (h1 x H4 (e01.trans e14)) (by omega) H4 (Ex.refl _) _ fun H5 e5 => ?_
    have e15 : Ex H1 H5 := e14.trans e5
    have e35 := e4.trans e5
    refine ⟨fun k r H' => r = m - k ∧ k ≤ m ∧ Ex H1 H' ∧ ∃ ws, H' Dl = some (.lst ws) ∧ Paired (fun v p => B v p H') ws (outer i ++ (List.range k).map fun k => (i, k)), ⟨_, rfl, Nat.zero_le _, e15, ws, e35 _ _ hD, by
      show Paired _ ws (outer i ++ [])
      rw [List.append_nil]
      exact paired_imp (fun a b r => hB a b _ _ (EN.of e35) r) pw⟩, ?_⟩
    rintro k r H6 ⟨rfl, hk, e6, us, hD6, pu⟩
    by_cases klt : k < m
    · refine .inr ⟨(walk_range (n := m)).goes k H6 klt trivial, fun H' => Ex H1 H' ∧ ∃ ws, H' Dl = some (.lst ws) ∧ Paired (fun v p => B v p H') ws (outer i ++ (List.range (k + 1)).map fun k => (i, k)), fun H' ⟨p1, p2⟩ => ⟨_, by omega, rfl, klt, p1, p2⟩, fun y H7 yl => ?_⟩
      obtain ⟨rfl, hy⟩ := (walk_range (n := m)).yields k H6 y H7 klt trivial yl
      have ey : y = vi k := hy.trans (by show V.int _ = V.int _; rw [Int.zero_add])
      subst ey
      refine ⟨hw1 x _, et_yes H7 (Ex.refl _) _ fun H8 e8 => ?_⟩
      refine ifT ?_
      have e18 : Ex H1 H8 := e6.trans e8
      refine he i x k H8 (e01.trans e18) hxi' klt H8 (Ex.refl _) _ fun v H9 e9 bv => ?_
      have hD9 := (e8.trans e9) _ _ hD6
      refine ⟨us, hD9, ?_, (e18.trans e9).mut nD, us ++ [v], upd_same, ?_⟩
      · rw [paired_len pu, List.length_append, lenO, List.length_map, List.length_range]
        have b1 : i * m ≤ 10000 * 9 := Nat.mul_le_mul (by omega) hm
        exact sz_lt (by omega)
      · rw [List.range_succ, List.map_append, ← List.append_assoc]
        have et : EN H9 (upd H9 Dl (.lst (us ++ [v]))) := EN.refl.upd hD9
        have pu2 : Paired (fun z p => B z p (upd H9 Dl (.lst (us ++ [v])))) us (outer i ++ (List.range k).map fun k => (i, k)) := paired_imp (fun a b r => hB a b _ _ (EN.trans (EN.of (e8.trans e9)) et) r) pu
        exact paired_snoc' (xs := us) (x := v) (y := (i, k)) (hB _ _ _ _ et bv) pu2
    · have ek : k = m := by omega
      subst ek
      refine .inl ⟨(walk_range (n := k)).stops H6 trivial, e6, us, hD6, ?_⟩
      have : outer (i + 1) = outer i ++ (List.range k).map fun k => (i, k) := by
        show (List.range (i + 1)).flatMap _ = _
        rw [List.range_succ, List.flatMap_append, List.flatMap_singleton]
      rw [this]
      exact pu
  · have ei : i = xs.length := by omega
    subst ei
    exact .inl ⟨⟨xs, ex_l (e01.trans e2) hx, Nat.le_refl _⟩, q Dl ws H2 (fresh_back e1 nD) (e1.trans e2) hD pw⟩
end
end Dw
end
section
/-! tuples by what they hold: written, joined, cut; equal lists of numbers -/
namespace Dw
open PySem PySem.Spec PyProof.Rows L2 Evl
theorem op_catAK {X : Cx} (K : PySem.W.Frag) (h : X.K = K := by rfl) : OpR X (binaryOp .Add) (rCatA K) := by
  subst h
  exact op_catA
def TV (K : PySem.W.Frag) (H : Hp) (v : V) (xs : List V) : Prop := ∃ a, v = .ref a ∧ SqT K H a xs
section
variable {K : PySem.W.Frag} {σ : L2.St} {H H' : Hp} {ta tb te : TE} {t : TT} {x y z v : V} {P : V → Hp → Prop} {D : Ends} {tu tz : TS} {g : TG}
theorem TV.ex {xs : List V} (e : Ex H H') (h : TV K H v xs) : TV K H' v xs := let ⟨a, q, s⟩ := h; ⟨a, q, ex_t e s⟩
theorem TV.et {xs : List V} (e : ET K H H') (h : TV K H v xs) : TV K H' v xs := let ⟨a, q, s⟩ := h; ⟨a, q, e _ _ s⟩
theorem tv_ev {xs : List V} {a : Addr} (h : Ev te σ H (.ref a)) (s : SqT K H a xs) : EvP te σ H (fun v H' => TV K H' v xs) := ep_ev h fun _ e => ⟨a, rfl, ex_t e s⟩
theorem tv_evV {xs : List V} (h : Ev te σ H v) (s : TV K H v xs) : EvP te σ H (fun v H' => TV K H' v xs) := ep_ev h fun _ e => s.ex e
theorem tv_cat {xs ys : List V} (ha : EvP ta σ H (fun v H' => TV K H' v xs)) (hb : EvP tb σ H (fun v H' => TV K H' v ys)) (hl : xs.length + ys.length ≤ 100000) : EvP (tOp (rCatA K) ta tb) σ H (fun v H' => TV K H' v (xs ++ ys)) := fun H1 e1 Q q =>
  ha H1 e1 _ fun v H2 e2 hv => hb H2 (e1.trans e2) _ fun u H3 e3 hu => by
    obtain ⟨a, rfl, sa⟩ := hv.ex e3
    obtain ⟨b, rfl, sb⟩ := hu
    refine ⟨a, b, xs, ys, rfl, rfl, sa, sb, sz_of hl, fun z => ?_, fun _ z => ?_, fun _ _ p np => ?_⟩
    · subst z
      exact q _ H3 (e2.trans e3) ⟨b, rfl, sb⟩
    · subst z
      rw [List.append_nil] at q
      exact q _ H3 (e2.trans e3) ⟨a, rfl, sa⟩
    · exact q _ _ ((e2.trans e3).trans (Ex.new np)) ⟨p, rfl, st_of upd_same⟩
theorem tv_tup {ta : TA} {xs : List V} (h : EvA ta σ H xs) (l : xs.length ≤ 100000) : EvP (tTup ta) σ H (fun v H' => TV K H' v xs) := fun H1 e1 Q q => eu_tup h l H1 e1 _ fun p H2 np e2 hp => q _ H2 e2 ⟨p, rfl, st_of hp⟩
theorem tv_sl {tl th : TO} {xs : List V} {lo hi : Option Int} (h : EvP te σ H (fun v H' => TV K H' v xs)) (h1 : EvO tl σ H lo) (h2 : EvO th σ H hi) : EvP (tSl (rSlA K) te tl th) σ H (fun v H' => TV K H' v (cutV xs lo hi)) := fun H1 e Q q =>
  h H1 e _ fun v H2 e2 hv => h1 H2 (e.trans e2) _ fun H3 e3 => h2 H3 ((e.trans e2).trans e3) _ fun H4 e4 => by
    obtain ⟨a, rfl, sa⟩ := hv
    have s4 := ex_t (e3.trans e4) sa
    refine ⟨a, xs, rfl, s4, fun ⟨z1, z2⟩ => ?_, fun _ p np => ?_⟩
    · refine q _ H4 ((e2.trans e3).trans e4) ⟨a, rfl, ?_⟩
      unfold cutV
      rw [z1, z2, List.drop_zero, Nat.sub_zero, List.take_length]
      exact s4
    · exact q _ _ (((e2.trans e3).trans e4).trans (Ex.new np)) ⟨p, rfl, st_of upd_same⟩
theorem cut_from' {xs : List V} {k : Nat} : cutV xs (some (k : Int)) none = xs.drop k := by
  unfold cutV
  rw [HT.sIx_none, HT.sIx_nat]
  by_cases h : k ≤ xs.length
  · rw [Nat.min_eq_left h, List.take_of_length_le (by rw [List.length_drop]; exact Nat.le_refl _)]
  · rw [Nat.min_eq_right (by omega), List.drop_length, List.take_nil, List.drop_of_length_le (by omega)]
theorem cut_to' {xs : List V} {k : Nat} : cutV xs none (some (k : Int)) = xs.take k := by
  unfold cutV
  rw [HT.sIx_none, HT.sIx_nat, List.drop_zero, Nat.sub_zero]
  by_cases h : k ≤ xs.length
  · rw [Nat.min_eq_left h]
  · rw [Nat.min_eq_right (by omega), List.take_length, List.take_of_length_le (by omega)]
theorem tv_is {xs ys : List V} (h : EvP te σ H (fun v H' => TV K H' v xs)) (e : xs = ys) : EvP te σ H (fun v H' => TV K H' v ys) := e ▸ h
theorem tv_nats {ns : List Nat} (h : EvP te σ H (fun v H' => TV K H' v (ns.map vi))) : EvP te σ H (fun v H' => Nats K H' v ns) := h
/-! equality of lists of numbers as data -/
theorem eqv_nats : ∀ a b : List Nat, PyData.eqvAll (a.map fun n => .int ((n : Nat) : Int)) (b.map fun n => .int ((n : Nat) : Int)) = decide (a = b)
  | [], [] => by simp [PyData.eqvAll]
  | [], _ :: _ => by simp [PyData.eqvAll]
  | _ :: _, [] => by simp [PyData.eqvAll]
  | x :: a, y :: b => by
    rw [List.map_cons, List.map_cons, PyData.eqvAll, eqv_nats a b, PyData.eqv]
    by_cases h : x = y
    · subst h
      by_cases h2 : a = b
      · subst h2
        simp
      · simp [h2]
    · have : ((x : Nat) : Int) ≠ ((y : Nat) : Int) := fun z => h (Int.ofNat.inj z)
      simp [h, this]
theorem eqv_dN (a b : List Nat) : PyData.eqv (dN a) (dN b) = decide (a = b) := by
  unfold dN
  rw [PyData.eqv]
  exact eqv_nats a b
theorem ev_eqN {a b : List Nat} (ha : EvP ta σ H (fun v H' => Nats K H' v a)) (hb : EvP tb σ H (fun v H' => Nats K H' v b)) (la : ∀ n ∈ a, n ≤ 1000) (lb : ∀ n ∈ b, n ≤ 1000) (za : a.length ≤ 36) (zb : b.length ≤ 36) : Ev (tOp (rEqD K) ta tb) σ H (.bl (decide (a = b))) := fun H1 e Q q =>
  ha H1 e _ fun v H2 e2 hv => hb H2 (e.trans e2) _ fun u H3 e3 hu => ⟨dN a, dN b, (hv.ex e3).dp, hu.dp, (gd_nats la za).shaped (by decide), (gd_nats lb zb).shaped (by decide), by
    rw [eqv_dN]
    exact q H3 (e2.trans e3)⟩
end
end Dw
namespace Dw
open PySem PySem.Spec PyProof.Rows L2 Evl
section
variable {K : PySem.W.Frag} {σ : L2.St} {H H' : Hp} {ta tb te : TE} {t : TT} {x y z v : V} {P R2 : V → Hp → Prop} {D : Ends} {tu tz : TS} {g : TG} {R : List V → Hp → Prop}
theorem do_ext {l : Addr} {xs : List V} (hl : H l = some (.lst xs)) (ha : Ev ta σ H (.ref l)) (h : EvLP te σ H R)
    (k : ∀ p ws H1, H p = none → Ex H H1 → H1 p = some (.lst ws) → R ws H1 → xs.length + ws.length ≤ sizeLine ∧ D.nx σ (upd H1 l (.lst (xs ++ ws)))) : tDrop (tBM K "list" rExtend ta (tCons te tNil)) D σ H :=
  ha H (Ex.refl H) _ fun H1 e1 => ⟨Or.inl ⟨rfl, xs, sq_of (e1 l _ hl)⟩, h H1 e1 _ fun p ws H2 np e2 hp r => by
    obtain ⟨a, b⟩ := k p ws H2 (fresh_back e1 np) (e1.trans e2) hp r
    exact ⟨l, p, xs, ws, rfl, rfl, e2 _ _ (e1 _ _ hl), hp, a, b⟩⟩
/-- a written pair -/
theorem ep_tup2 (h1 : EvP ta σ H P) (h2 : EvP tb σ H R2) (k1 : ∀ v H H', Ex H H' → P v H → P v H') (k2 : ∀ v H H', Ex H H' → R2 v H → R2 v H') : EvP (tTup (tCons ta (tCons tb tNil))) σ H (fun v H' => ∃ p u w, v = .ref p ∧ SqT K H' p [u, w] ∧ P u H' ∧ R2 w H') := fun H1 e Q q =>
  do_tup (do_cons (h1 H1 e _ fun u H2 e2 hu => do_cons (h2 H2 (e.trans e2) _ fun w H3 e3 hw => do_nil ⟨by show 2 ≤ sizeLine; decide, fun p np => q _ _ ((e2.trans e3).trans (Ex.new np)) ⟨p, u, w, rfl, st_of upd_same, k1 _ _ _ (e3.trans (Ex.new np)) hu, k2 _ _ _ (Ex.new np) hw⟩⟩)))
end
/-- a promise that knows the heap ahead too -/
def spG {α : Type} (pre : α → List V → Hp → Prop) (post : α → Hp → V → Hp → Prop) : Sp := fun vs H Q _ => ∃ a, pre a vs H ∧ ∀ v H', Ex H H' → post a H v H' → Q v H'
theorem ep_callG {α : Type} {pre : α → List V → Hp → Prop} {post : α → Hp → V → Hp → Prop} {σ : L2.St} {H : Hp} {P : V → Hp → Prop} (a : α) {vs : List V} {E : XK} {ta : TA} (h : EvA ta σ H vs) (hp : ∀ H1, Ex H H1 → pre a vs H1) (hv : ∀ H1 v H2, Ex H H1 → Ex H1 H2 → post a H1 v H2 → P v H2) : EvP (tCall (spG pre post) [] E ta) σ H P := fun H1 e Q q =>
  h H1 e _ fun H2 e2 => by
    rw [List.append_nil]
    exact ⟨a, hp H2 (e.trans e2), fun v H3 e3 p => q v H3 (e2.trans e3) (hv H2 v H3 (e.trans e2) e3 p)⟩
section
variable {K : PySem.W.Frag} {σ : L2.St} {H : Hp} {te tl : TE} {D : Ends} {tu tz : TS} {g : TG}
theorem et_truTup {l : Addr} {xs : List V} (h : Ev te σ H (.ref l)) (hl : SqT K H l xs) : EvT (fun σ H Q => te σ H fun x H' => ∃ k, TruV K x H' k ∧ Q k H') σ H (!xs.isEmpty) := fun H1 e Q q =>
  h H1 e _ fun H2 e2 => ⟨!xs.isEmpty, .inr (.inl ⟨xs, ex_t (e.trans e2) hl, rfl⟩), q H2 e2⟩
/-- over a list that is told by what holds of it -/
theorem q_forPL {R : Addr → List V → Hp → Prop} (h : EvP tl σ H (fun v H' => ∃ a xs, v = .ref a ∧ H' a = some (.lst xs) ∧ R a xs H'))
    (k : ∀ a xs H1, Ex H H1 → H1 a = some (.lst xs) → R a xs H1 → ∃ Pv : Nat → L2.St → Hp → Prop, Pv 0 σ H1 ∧ (∀ i σ' H', i ≤ xs.length → Pv i σ' H' → SqL K H' a xs) ∧ (∀ i x σ' H', xs[i]? = some x → Pv i σ' H' → g x σ' H' fun σ2 H2 => tu { D with nx := Pv (i + 1), ct := Pv (i + 1), bk := tz D } σ2 H2) ∧ (∀ σ' H', Pv xs.length σ' H' → tz D σ' H')) :
    tSeq (tFor (iList K tl) g tu) tz D σ H :=
  h H (Ex.refl H) _ fun v H1 e ⟨a, xs, ev, ha, r⟩ => by
    subst ev
    obtain ⟨Pv, h0, hl, hs, hd⟩ := k a xs H1 e ha r
    exact ⟨a, rfl, ⟨xs, sq_of ha⟩, for_list (D := { D with nx := tz D }) Pv h0 hl hs hd⟩
end
theorem ep_callGP {α : Type} {pre : α → List V → Hp → Prop} {post : α → Hp → V → Hp → Prop} {σ : L2.St} {H : Hp} {P : V → Hp → Prop} {R : List V → Hp → Prop} (a : α) {E : XK} {ta : TA} (h : EvAP ta σ H R) (hp : ∀ vs H1, Ex H H1 → R vs H1 → pre a vs H1) (hv : ∀ H1 v H2, Ex H H1 → Ex H1 H2 → post a H1 v H2 → P v H2) : EvP (tCall (spG pre post) [] E ta) σ H P := fun H1 e Q q =>
  h H1 e _ fun vs H2 e2 r => by
    rw [List.append_nil]
    exact ⟨a, hp vs H2 (e.trans e2) r, fun v H3 e3 p => q v H3 (e2.trans e3) (hv H2 v H3 (e.trans e2) e3 p)⟩
end Dw
end
section
/-! how many begins there are; names told by a begin -/
namespace M25
open M20
theorem fact_pos : ∀ n, 1 ≤ fact n
  | 0 => Nat.le_refl _
  | n + 1 => by
    show 1 ≤ fact n * (n + 1)
    have := fact_pos n
    exact Nat.le_trans this (Nat.le_mul_of_pos_right _ (Nat.succ_pos n))
theorem fact6 {n : Nat} (h : n ≤ 6) : fact n ≤ 720 := by
  match n, h with
  | 0, _ => decide
  | 1, _ => decide
  | 2, _ => decide
  | 3, _ => decide
  | 4, _ => decide
  | 5, _ => decide
  | 6, _ => decide
theorem sub_len {l m : List (List Nat)} (h1 : l.Nodup) (h : ∀ x ∈ l, x ∈ m) : l.length ≤ m.length := by
  induction l generalizing m with
  | nil => exact Nat.zero_le _
  | cons x l ih =>
    have hx := h x (List.mem_cons_self ..)
    rw [List.nodup_cons] at h1
    have := ih (m := m.erase x) h1.2 fun y hy => (List.mem_erase_of_ne (show y ≠ x from fun e => h1.1 (by rw [← e]; exact hy))).mpr (h y (List.mem_cons_of_mem _ hy))
    rw [List.length_erase_of_mem hx] at this
    have := List.length_pos_of_mem hx
    rw [List.length_cons]
    omega
theorem bgs_few {n L : Nat} {bs : List (List Nat)} (h : Bgs n L bs) (le : L ≤ n) : bs.length ≤ fact n := by
  have a := allc_len h (k := n - L) (by omega)
  have b : Bgs n (L + (n - L)) (allc n (n - L) bs) := h.allc
  rw [show L + (n - L) = n by omega] at b
  have c := sub_len b.nd fun x hx => all_mem.mpr (bg_ord.mp (b.each x hx))
  rw [all_len, a] at c
  exact Nat.le_trans (Nat.le_mul_of_pos_right _ (fact_pos _)) c
theorem Good.few {n : Nat} {bs : List (List Nat)} (h : Good n bs) (n6 : n ≤ 6) : bs.length ≤ 720 := Nat.le_trans (bgs_few h.bgs h.ln_le) (fact6 n6)
theorem ln_ext1 {n : Nat} {bs : List (List Nat)} (h : Good n bs) (lt : ln bs < n) : Good n (ext1 n bs) ∧ ln (ext1 n bs) = ln bs + 1 := by
  have a := h.bgs.ext1
  have b := ext1_ne h.bgs h.ne lt
  exact ⟨⟨_, by omega, a, b⟩, ln_is a b⟩
theorem grow_step {n many : Nat} {bs : List (List Nat)} (h : Good n bs) (lt : ln bs < many) (le : many ≤ n) : grow n many bs = grow n many (ext1 n bs) := by
  unfold grow
  rw [(ln_ext1 h (by omega)).2, show many - ln bs = (many - (ln bs + 1)) + 1 by omega]
  rfl
theorem grow_done {n many : Nat} {bs : List (List Nat)} (h : ¬ ln bs < many) : grow n many bs = bs := by
  unfold grow
  rw [show many - ln bs = 0 by omega]
  rfl
def nmOf (b : List Nat) (k : Nat) : Int := if k ∈ b then ((b.idxOf k : Nat) : Int) else -1
def nms (n : Nat) (b : List Nat) : List Int := (List.range n).map (nmOf b)
theorem nms_len (n : Nat) (b : List Nat) : (nms n b).length = n := by simp [nms]
theorem nms_at {n : Nat} {b : List Nat} {k : Nat} (h : k < n) : (nms n b)[k]? = some (nmOf b k) := by
  unfold nms
  rw [List.getElem?_map, List.getElem?_range h]
  rfl
theorem nms_snoc {n : Nat} {b : List Nat} {o : Nat} (ho : o < n) (m : o ∉ b) : (nms n b).take o ++ [((b.length : Nat) : Int)] ++ (nms n b).drop (o + 1) = nms n (b ++ [o]) := by
  have lt : ((nms n b).take o).length = o := by rw [List.length_take, nms_len]; omega
  apply List.ext_getElem?
  intro k
  by_cases hk : k < n
  · rw [nms_at hk]
    have other : k ≠ o → nmOf (b ++ [o]) k = nmOf b k := fun ne => by
      unfold nmOf
      by_cases z : k ∈ b
      · rw [if_pos z, if_pos (List.mem_append_left _ z), List.idxOf_append, if_pos z]
      · rw [if_neg z, if_neg (fun y => by
          rcases List.mem_append.mp y with y | y
          · exact z y
          · exact ne (List.mem_singleton.mp y))]
    rcases Nat.lt_trichotomy k o with z | z | z
    · rw [List.append_assoc, List.getElem?_append_left (by rw [lt]; exact z), List.getElem?_take_of_lt z, nms_at hk, other (by omega)]
    · subst z
      rw [List.append_assoc, List.getElem?_append_right (by rw [lt]; exact Nat.le_refl _), lt, Nat.sub_self]
      show some ((b.length : Nat) : Int) = some (nmOf (b ++ [k]) k)
      unfold nmOf
      rw [if_pos (List.mem_append_right _ (List.mem_singleton.mpr rfl)), List.idxOf_append, if_neg m, List.idxOf_cons_self, Nat.zero_add]
    · rw [List.getElem?_append_right (by rw [List.length_append, lt]; exact z), List.length_append, lt, List.getElem?_drop]
      show (nms n b)[o + 1 + (k - (o + 1))]? = _
      rw [show o + 1 + (k - (o + 1)) = k by omega, nms_at hk, other (by omega)]
  · rw [List.getElem?_eq_none_iff.mpr (by
      rw [List.length_append, List.length_append, lt, List.length_drop, nms_len]
      show o + 1 + (n - (o + 1)) ≤ k
      omega), List.getElem?_eq_none_iff.mpr (by rw [nms_len]; omega)]
theorem nm_neg {b : List Nat} {k : Nat} : nmOf b k < 0 ↔ k ∉ b := by
  unfold nmOf
  by_cases h : k ∈ b
  · rw [if_pos h]
    exact ⟨fun z => by omega, fun z => absurd h z⟩
  · rw [if_neg h]
    exact ⟨fun _ => h, fun _ => by decide⟩
/-- names of a whole begin: the order back -/
theorem nms_full {n : Nat} {q : List Nat} (h : Bg n n q) : nms n q = (bk q).map fun k => ((k : Nat) : Int) := by
  unfold nms M20.bk
  rw [List.map_map, h.len]
  apply List.map_congr_left
  intro k hk
  show nmOf q k = ((q.idxOf k : Nat) : Int)
  unfold nmOf
  rw [if_pos (hits n q (bg_ord.mp h) k (List.mem_range.mp hk))]
theorem nms_nil (n : Nat) : nms n [] = List.replicate n (-1) := by
  unfold nms
  rw [show nmOf [] = fun _ => -1 from funext fun k => if_neg (by intro z; cases z), List.map_const', List.length_range]
end M25
end
section
/-! dict(a tuple of pairs), the tuple told with its own object -/
namespace Dw
open PySem PySem.Spec PyProof.Rows L2 Evl
section
variable {X : Cx}
end
end Dw
end
section
/-! sets of texts, their table known well enough that they can be walked: add, set(a list), sorted -/
namespace Dw
open PySem PySem.Spec PyProof.Rows L2
/-- the text of an entry -/
def txtOf (e : Int × Value) : Str := match e.2 with | .str x _ => x | _ => Str.empty
def IsTxt (w : World) (e : Int × Value) : Prop := ∃ x tk, e.2 = Value.str x tk ∧ e.1 = hashStr w x
/-- a set at a whose members are the texts ks, each once, in the order in which they came -/
structure TxtSet (w : World) (h : Heap) (a : Addr) (ks : List Str) : Prop where
  ex : ∃ o es ep t, h.get? a = some o ∧ o.ExactSet ∧ o.data = .set es ep t ∧ (∀ e ∈ es.toList, IsTxt w e) ∧ (es.toList.map txtOf).Perm ks ∧ t.fits es.size = true ∧ Ris t.place.toList ∧ (w.params.followText "set-order" = true ∨ t.led = true)
  nd : ks.Nodup
  few : ks.length < scanBound
section
variable {P : Program} {w : World} {A : Around} {E : Value → Shared → Prop} {s : Shared} {a : Addr} {ks : List Str}
theorem TxtSet.at {h h' : Heap} (T : TxtSet w h a ks) (same : ∀ o, h.get? a = some o → h'.get? a = some o) : TxtSet w h' a ks := by
  obtain ⟨o, es, ep, t, at_, rest⟩ := T.ex
  exact ⟨⟨o, es, ep, t, same o at_, rest⟩, T.nd, T.few⟩
end
end Dw
end
section
namespace Dw
open PySem PySem.Spec PyProof.Rows L2
section
variable {P : Program} {w : World} {A : Around} {E : Value → Shared → Prop} {s : Shared}
/-- the new set as set() lays it -/
abbrev newSet (w : World) : Obj := { cls := .type "set", dict := none, data := .set #[] 0 (.fresh 0 0 (!w.params.followText "set-order")) }
end
end Dw
end
section
/-! rules over sets of texts: set(a list), sorted(the set) -/
namespace Dw
open PySem PySem.Spec PyProof.Rows L2
section
variable {P : Program} {w : World} {A : Around} {E : Value → Shared → Prop} {s : Shared} {a : Addr} {ks : List Str}
end
section
variable {X : Cx}
end
end Dw
end
section
/-! a tuple turned about, t[::-1]; a list made longer by a tuple -/
namespace Dw
open PySem PySem.Spec PyProof.Rows L2
section
variable {P : Program} {w : World} {A : Around} {E : Value → Shared → Prop} {s : Shared}
end
section
variable {X : Cx}
end
end Dw
end
section
/-! dict(zip(a, b)), a and b lists or tuples -/
namespace Dw
open PySem PySem.Spec PyProof.Rows L2 Evl
section
variable {prog : Program} {w : World} {A : Around} {E : Value → Shared → Prop} {s : Shared} {z TI TO T p q : Addr} {F G : List Addr} {n m i : Nat} {P R : Nat → Value → Prop} {U V : Nat → Heap → Prop} {f : Bool} {oT : Obj}
end
/-- a list or a tuple, and its walker -/
def SqO (t : Bool) (h : Heap) (l : Addr) (xs : Array Value) : Prop := if t = true then h.IsTuple l xs else h.IsList l xs
def SqI (t : Bool) (it l : Addr) (xs : Array Value) (i : Nat) (h : Heap) : Prop := if t = true then h.IsTupleIter it l i ∧ h.IsTuple l xs else h.IsListIter it l i ∧ h.IsList l xs
theorem SqI.keep {t : Bool} {it l : Addr} {xs : Array Value} {i : Nat} {h h' : Heap} (x : SqI t it l xs i h) (k : ∀ b, b = it ∨ b = l → ∀ o, h.get? b = some o → h'.get? b = some o) : SqI t it l xs i h' := by
  cases t
  · exact And.intro (x.1.at fun o e => k it (.inl rfl) o e) (x.2.at fun o e => k l (.inr rfl) o e)
  · exact And.intro (x.1.at fun o e => k it (.inl rfl) o e) (x.2.at fun o e => k l (.inr rfl) o e)
theorem SqI.there {t : Bool} {it l : Addr} {xs : Array Value} {i : Nat} {h : Heap} (x : SqI t it l xs i h) : (∃ o, h.get? it = some o) ∧ ∃ o, h.get? l = some o := by
  cases t
  · obtain ⟨⟨o, a, _⟩, ⟨o2, b, _⟩⟩ := x
    exact ⟨⟨o, a⟩, ⟨o2, b⟩⟩
  · obtain ⟨⟨o, a, _⟩, ⟨o2, b, _⟩⟩ := x
    exact ⟨⟨o, a⟩, ⟨o2, b⟩⟩
/-! the expression -/
theorem SqO.lt {t : Bool} {h : Heap} {l : Addr} {xs : Array Value} (x : SqO t h l xs) : l < h.objs.size := by
  cases t
  · obtain ⟨o, e, _⟩ := (show h.IsList l xs from x)
    exact Heap.lt_size e
  · obtain ⟨o, e, _⟩ := (show h.IsTuple l xs from x)
    exact Heap.lt_size e
abbrev itOf (t : Bool) (l : Addr) : Obj := { cls := .type (if t = true then "tuple_iterator" else "list_iterator"), data := .fields #[.ref l, .int 0 0] }
theorem SqI.start {t : Bool} {h h' : Heap} {it l : Addr} {xs : Array Value} (x : SqO t h l xs) (k : ∀ b o, h.get? b = some o → h'.get? b = some o) (e : h'.get? it = some (itOf t l)) : SqI t it l xs 0 h' := by
  cases t
  · exact And.intro ⟨_, e, rfl, rfl⟩ (Heap.IsList.at (show h.IsList l xs from x) fun o q => k l o q)
  · exact And.intro ⟨_, e, rfl, rfl⟩ (Heap.IsTuple.at (show h.IsTuple l xs from x) fun o q => k l o q)
end Dw
end
section
/-! promises of new lists; comprehensions over a zip; tuple.index of texts; wider sums -/
namespace Dw
open PySem PySem.Spec PyProof.Rows L2 Evl RZ
section
variable {K : PySem.W.Frag} {σ : L2.St} {H H' : Hp} {ta tb te : TE} {t : TT} {x y z v : V} {D : Ends} {tu tz : TS} {g : TG}
theorem ev_divM {a b : Nat} (ha : Ev ta σ H (vi a)) (hb : Ev tb σ H (vi b)) (b0 : 0 < b) (lb : b ≤ 100000) : Ev (tOp (rI CDiv fun i j => .int (i / j)) ta tb) σ H (vi (a / b)) := ev_is (ev_op ha hb (rv_I ⟨by omega, by omega⟩)) (by show V.int ((a : Int) / (b : Int)) = V.int ((a / b : Nat) : Int); rw [Int.natCast_ediv])
theorem ev_mulM {a b : Nat} (ha : Ev ta σ H (vi a)) (hb : Ev tb σ H (vi b)) (la : a ≤ 100000) : Ev (tOp (rI CMul fun i j => .int (i * j)) ta tb) σ H (vi (a * b)) := ev_is (ev_op ha hb (rv_I (.inl ⟨by omega, by omega⟩))) (by show V.int ((a : Int) * (b : Int)) = V.int ((a * b : Nat) : Int); rw [Int.natCast_mul])
theorem ev_addM {a b : Nat} (ha : Ev ta σ H (vi a)) (hb : Ev tb σ H (vi b)) : Ev (tOp (rI0 fun i j => .int (i + j)) ta tb) σ H (vi (a + b)) := ev_is (ev_op ha hb rv_I0) (by show V.int ((a : Int) + (b : Int)) = V.int ((a + b : Nat) : Int); rw [Int.natCast_add])
end
section
variable {X : Cx}
end
end Dw
end
section
/-! the least worth, begin by begin -/
namespace M25
open M20
theorem best_snoc {n : Nat} {t args : List Nat} : ∀ {bs : List (List Nat)} {b : List Nat} {m : Nat}, best n t args (bs ++ [b]) m = min (best n t args bs m) (told n t args b)
  | [], _, _ => rfl
  | c :: bs, b, m => best_snoc (bs := bs)
/-- of the first begins: those with m told -/
def keptL (n : Nat) (t args : List Nat) (bs : List (List Nat)) (m : Nat) : List (List Nat) := (bs.filter fun b => decide (told n t args b = m)).map (kept n t args)
theorem keptL_snoc {n : Nat} {t args : List Nat} {bs : List (List Nat)} {b : List Nat} {m : Nat} : keptL n t args (bs ++ [b]) m = keptL n t args bs m ++ if told n t args b = m then [kept n t args b] else [] := by
  unfold keptL
  rw [List.filter_append, List.map_append]
  congr 1
  by_cases h : told n t args b = m
  · rw [if_pos h, List.filter_cons_of_pos (by exact decide_eq_true h)]
    rfl
  · rw [if_neg h, List.filter_cons_of_neg (by rw [decide_eq_false h]; decide)]
    rfl
theorem keptL_low {n : Nat} {t args : List Nat} {bs : List (List Nat)} {m0 m : Nat} (h : m < best n t args bs m0) : keptL n t args bs m = [] := by
  unfold keptL
  have : (bs.filter fun b => decide (told n t args b = m)) = [] := List.filter_eq_nil_iff.mpr fun b hb z => by
    have := of_decide_eq_true z
    have := best_mem (n := n) (t := t) (args := args) (m := m0) b hb
    omega
  rw [this]
  rfl
theorem keptL_len {n : Nat} {t args : List Nat} {bs : List (List Nat)} {m : Nat} : (keptL n t args bs m).length ≤ bs.length := by
  unfold keptL
  rw [List.length_map]
  exact List.length_filter_le _ _
theorem at_take {n : Nat} {b args : List Nat} {j : Nat} (h : j < args.length) : at_ n b (args.take (j + 1)) = at_ n b (args.take j) * n + g b (g args j) := by
  unfold at_
  rw [List.take_add_one, g_eq h]
  show List.foldl _ 0 (args.take j ++ [g args j]) = _
  rw [List.foldl_append]
  rfl
theorem at_small {n : Nat} {b args : List Nat} (h : ∀ k ∈ args, g b k < n) : at_ n b args < n ^ args.length := by
  have := at_low (n := n) (b := b) (args := args) (a := 0) (m := 0) h (by simp)
  rw [Nat.zero_add] at this
  exact this
theorem g_mem {l : List Nat} {k : Nat} (h : k < l.length) : g l k ∈ l := List.mem_iff_getElem?.mpr ⟨k, g_eq h⟩
theorem pow_small' {n p : Nat} (hn : n ≤ 6) (hp : p ≤ 2) : n ^ p ≤ 36 := by
  match p, hp with
  | 0, _ => simp
  | 1, _ => rw [Nat.pow_one]; omega
  | 2, _ => rw [Nat.pow_two]; exact Nat.mul_le_mul hn hn
end M25
end
section
/-! row by row, table by table, from behind -/
namespace M25
open M20
theorem rowB_snoc {n : Nat} {t : List Nat} : ∀ {as bs : List (List Nat)} {a : List Nat}, rowB n t bs (as ++ [a]) = stepB n t (rowB n t bs as) a
  | [], _, _ => rfl
  | b :: as, bs, a => rowB_snoc (as := as)
theorem rowV_snoc {n : Nat} {t : List Nat} : ∀ {as bs : List (List Nat)} {a : List Nat}, rowV n t bs (as ++ [a]) = rowV n t bs as ++ [stepV n t (rowB n t bs as) a]
  | [], _, _ => rfl
  | b :: as, bs, a => by
    show stepV n t bs b :: rowV n t (stepB n t bs b) (as ++ [a]) = _
    rw [rowV_snoc (as := as)]
    rfl
def tab1B (n : Nat) (bs : List (List Nat)) (x : PT) : List (List Nat) := if same n x.1 x.2 = true then bs else rowB n x.2 bs (rows n x.1)
def tab1V (n : Nat) (bs : List (List Nat)) (x : PT) : List Nat := if same n x.1 x.2 = true then x.2 else rowV n x.2 bs (rows n x.1)
theorem tabB_cons {n : Nat} {x : PT} {l : List PT} {bs : List (List Nat)} : tabB n (x :: l) bs = tabB n l (tab1B n bs x) := by
  show (if _ then _ else _) = tabB n l (if _ then _ else _)
  split <;> rfl
theorem tabV_cons {n : Nat} {x : PT} {l : List PT} {bs : List (List Nat)} : tabV n (x :: l) bs = tab1V n bs x :: tabV n l (tab1B n bs x) := by
  unfold tab1V tab1B
  rw [tabV]
  split <;> rfl
theorem tabB_snoc {n : Nat} : ∀ {l : List PT} {bs : List (List Nat)} {x : PT}, tabB n (l ++ [x]) bs = tab1B n (tabB n l bs) x
  | [], bs, x => by rw [List.nil_append, tabB_cons]; rfl
  | y :: l, bs, x => by rw [List.cons_append, tabB_cons, tabB_cons, tabB_snoc]
theorem tabV_snoc {n : Nat} : ∀ {l : List PT} {bs : List (List Nat)} {x : PT}, tabV n (l ++ [x]) bs = tabV n l bs ++ [tab1V n (tabB n l bs) x]
  | [], bs, x => by rw [List.nil_append, tabV_cons]; rfl
  | y :: l, bs, x => by rw [List.cons_append, tabV_cons, tabV_cons, tabB_cons, tabV_snoc]; rfl
theorem rowV_len {n : Nat} {t : List Nat} : ∀ {as bs : List (List Nat)}, (rowV n t bs as).length = as.length
  | [], _ => rfl
  | a :: as, bs => by
    show (rowV n t (stepB n t bs a) as).length + 1 = _
    rw [rowV_len]
    rfl
theorem tabV_len {n : Nat} : ∀ {l : List PT} {bs : List (List Nat)}, (tabV n l bs).length = l.length
  | [], _ => rfl
  | x :: l, bs => by rw [tabV_cons, List.length_cons, List.length_cons, tabV_len]
theorem need_max : ∀ {args : List Nat} {m : Nat}, m ∈ args → (∀ k ∈ args, k ≤ m) → need args = m + 1
  | [], _, h, _ => nomatch h
  | a :: r, m, h, le => by
    have u := need_le (args := a :: r) (m := m + 1) fun k hk => by have := le k hk; omega
    have l := need_lt m h
    omega
theorem rows_len' (n : Nat) : ∀ p, (rows n p).length = n ^ p
  | 0 => rfl
  | p + 1 => by
    show ((rows n p).flatMap _).length = _
    rw [List.length_flatMap, Nat.pow_succ]
    have : (rows n p).map (fun r => ((List.range n).map fun k => r ++ [k]).length) = List.replicate (rows n p).length n := by
      rw [List.eq_replicate_iff]
      refine ⟨by rw [List.length_map], fun b hb => ?_⟩
      obtain ⟨r, _, rfl⟩ := List.mem_map.mp hb
      simp
    rw [this, List.sum_replicate_nat, rows_len' n p]
end M25
end
section
/-! for k, (a, b) in enumerate(zip(two lists)) -/
namespace Dw
open PySem PySem.Spec PyProof.Rows L2 Evl RZ
section
variable {prog : Program} {w : World} {A : Around} {E : Value → Shared → Prop} {s : Shared}
end
/-! a turn of a zip that may use its own tuple again -/
abbrev ZipF (h : Heap) (z TI TO : Addr) (f0 f1 : Value) : Prop := h.get? z = some { cls := .type "zip", dict := none, data := .fields #[f0, f1, .bool false, .ref TI, .ref TO], slots := #[] }
section
variable {prog : Program} {w : World} {A : Around} {E : Value → Shared → Prop} {s : Shared} {z TI TO T p q : Addr} {F G : List Addr} {n m i : Nat} {P R : Nat → Value → Prop} {U V : Nat → Heap → Prop} {f0 f1 a1 a2 : Value}
/-! next of a zip, whatever its own tuple is -/
/-- what stands of a zip between two turns -/
def ZTn (z TI TO p q a b : Addr) (i : Nat) (h : Heap) : Prop := IsTupOf2 h TI (.ref p) (.ref q) ∧ (∃ x y, IsTupOf2 h TO x y) ∧ (ZipF h z TI TO .none (.bool false) ∨ ∃ T f, IsZipHeld h z TI TO T f) ∧ h.IsListIter p a i ∧ h.IsListIter q b i
end
end Dw
end
section
/-! for k, (a, b) in enumerate(zip(two lists)): the walker -/
namespace Dw
open PySem PySem.Spec PyProof.Rows L2 Evl RZ
theorem ZTn.keep {z TI TO p q a b : Addr} {i : Nat} {h h' : Heap} (st : ZTn z TI TO p q a b i h) (k : ∀ c ∈ [z, TI, TO, p, q], ∀ o, h.get? c = some o → h'.get? c = some o) : ZTn z TI TO p q a b i h' := by
  obtain ⟨c1, ⟨x, y, c2⟩, c3, c4, c5⟩ := st
  refine ⟨k _ (by simp) _ c1, ⟨x, y, k _ (by simp) _ c2⟩, ?_, c4.at fun o e => k p (by simp) o e, c5.at fun o e => k q (by simp) o e⟩
  rcases c3 with c3 | ⟨T, f, c3⟩
  · exact .inl (k _ (by simp) _ c3)
  · exact .inr ⟨T, f, k _ (by simp) _ c3⟩
theorem FpOk.new {X : Cx} {pins : List (Addr × Obj)} {H : Hp} {b T : Addr} {o : HO} (h : FpOk X pins H b) (ne : b ≠ T) : FpOk X pins (upd H T o) b := ⟨by rw [upd_ne ne]; exact h.1, h.2⟩
end Dw
end
section
/-! enumerate(zip(two lists)): the expression -/
namespace Dw
open PySem PySem.Spec PyProof.Rows L2 Evl RZ
end Dw
end
section
/-! l.extend(any tuple that is read) -/
namespace Dw
open PySem PySem.Spec PyProof.Rows L2 Evl RZ
section
variable {X : Cx}
end
end Dw
end
section
/-! [.. for k, (a, b) in enumerate(zip(two lists)) if ..] -/
namespace Dw
open PySem PySem.Spec PyProof.Rows L2 Evl RZ
section
variable {K : PySem.W.Frag} {σ : L2.St} {H H' : Hp} {te : TE} {tt : TT}
end
end Dw
end
section
/-! t.index(x), x any small data -/
namespace Dw
open PySem PySem.Spec PyProof.Rows L2 Evl RZ
end Dw
end
section
namespace Dw
open PySem PySem.Spec PyProof.Rows L2
/-! list(a text): its signs -/
def signsV (z : Str) : List V := z.cps.toList.map fun c => V.str ⟨#[c]⟩
def rListS : List V → Hp → VK → Prop := fun xs H Q => ∃ z : Str, xs = [.str z] ∧ z.cps.size ≤ sizeLine ∧ ∀ l, H l = none → Q (.ref l) (upd H l (.lst (signsV z)))
end Dw
end
section
/-! zip(a list, a tuple): as many pairs as the shorter has -/
namespace Dw
open PySem PySem.Spec PyProof.Rows L2 Evl RZ
def StandsM (z TI TO i1 i2 a b : Addr) (i : Nat) (hp : Heap) : Prop := IsZip hp z TI TO .none ∧ IsTupOf2 hp TI (.ref i1) (.ref i2) ∧ (∃ x y, IsTupOf2 hp TO x y) ∧ hp.IsListIter i1 a i ∧ hp.IsTupleIter i2 b i
theorem five {c z TI TO i1 i2 : Addr} {P : Addr → Prop} (h : c ∈ [z, TI, TO, i1, i2]) (p1 : P z) (p2 : P TI) (p3 : P TO) (p4 : P i1) (p5 : P i2) : P c := by
  simp only [List.mem_cons, List.not_mem_nil, or_false] at h
  rcases h with e | e | e | e | e <;> (rw [e]; assumption)
theorem StandsM.low {z TI TO i1 i2 a b : Addr} {i : Nat} {hp : Heap} (st : StandsM z TI TO i1 i2 a b i hp) {c : Addr} (h : c ∈ [z, TI, TO, i1, i2]) : c < hp.objs.size := by
  obtain ⟨hz, hI, ⟨x, y, hO⟩, ⟨o1, e1, _⟩, ⟨o2, e2, _⟩⟩ := st
  exact five (P := fun c => c < hp.objs.size) h (Heap.lt_size hz) (Heap.lt_size hI) (Heap.lt_size hO) (Heap.lt_size e1) (Heap.lt_size e2)
end Dw
end
section
/-! dicts told with the same keys and the same data -/
namespace Dw
open PySem PySem.Spec PyProof.Rows L2 Evl RZ
section
variable {X : Cx}
end
end Dw
end
section
/-! zip(a tuple, a list): as many pairs as the shorter has -/
namespace Dw
open PySem PySem.Spec PyProof.Rows L2 Evl RZ
def StandsN (z TI TO i1 i2 a b : Addr) (i : Nat) (hp : Heap) : Prop := IsZip hp z TI TO .none ∧ IsTupOf2 hp TI (.ref i1) (.ref i2) ∧ (∃ x y, IsTupOf2 hp TO x y) ∧ hp.IsTupleIter i1 a i ∧ hp.IsListIter i2 b i
theorem StandsN.low {z TI TO i1 i2 a b : Addr} {i : Nat} {hp : Heap} (st : StandsN z TI TO i1 i2 a b i hp) {c : Addr} (h : c ∈ [z, TI, TO, i1, i2]) : c < hp.objs.size := by
  obtain ⟨hz, hI, ⟨x, y, hO⟩, ⟨o1, e1, _⟩, ⟨o2, e2, _⟩⟩ := st
  exact five (P := fun c => c < hp.objs.size) h (Heap.lt_size hz) (Heap.lt_size hI) (Heap.lt_size hO) (Heap.lt_size e1) (Heap.lt_size e2)
end Dw
end
section
/-! list(zip(a, b)) -/
namespace Dw
open PySem PySem.Spec PyProof.Rows L2 Evl
/-- what a zip under way is, with S apart -/
structure ZG (z TI TO p q a b S : Addr) (t1 t2 : Bool) (xs ys : Array Value) (i : Nat) (h : Heap) : Prop where
  ti : IsTupOf2 h TI (.ref p) (.ref q)
  s1 : SqI t1 p a xs i h
  s2 : SqI t2 q b ys i h
  st : (IsZip h z TI TO .none ∧ ∃ x y, IsTupOf2 h TO x y) ∨ ∃ T f oT, IsZipHeld h z TI TO T f ∧ h.get? T = some oT ∧ T ≠ z ∧ T ≠ p ∧ T ≠ q ∧ T ≠ S
theorem ZG.keep {z TI TO p q a b S : Addr} {t1 t2 : Bool} {xs ys : Array Value} {i : Nat} {h h' : Heap} (g : ZG z TI TO p q a b S t1 t2 xs ys i h) (far : ∀ c ∈ [z, TI, TO, p, q, a, b], c < S) (k : ∀ c o, c ≠ S → h.get? c = some o → h'.get? c = some o) : ZG z TI TO p q a b S t1 t2 xs ys i h' := by
  have nz : ∀ c ∈ [z, TI, TO, p, q, a, b], c ≠ S := fun c hc => Nat.ne_of_lt (far c hc)
  obtain ⟨e1, e2, e3, e4⟩ := g
  refine ⟨k _ _ (nz TI (by simp)) e1, e2.keep fun c hc o e => ?_, e3.keep fun c hc o e => ?_, ?_⟩
  · rcases hc with x | x <;> subst x <;> exact k _ o (nz _ (by simp)) e
  · rcases hc with x | x <;> subst x <;> exact k _ o (nz _ (by simp)) e
  · rcases e4 with ⟨isZ, x, y, isO⟩ | ⟨T, f, oT, isZ, atT, r1, r2, r3, r4⟩
    · exact .inl ⟨k _ _ (nz z (by simp)) isZ, x, y, k _ _ (nz TO (by simp)) isO⟩
    · exact .inr ⟨T, f, oT, k _ _ (nz z (by simp)) isZ, k _ _ r4 atT, r1, r2, r3, r4⟩
section
variable {prog : Program} {w : World} {A : Around} {E : Value → Shared → Prop} {s : Shared} {z TI TO p q a b S : Addr} {t1 t2 : Bool} {xs ys : Array Value} {i : Nat}
end
/-- the pairs at their addresses -/
structure ZPr (xs ys : Array Value) (lo : Addr) (h : Heap) (as : List Addr) : Prop where
  rise : as.Pairwise (· < ·)
  above : ∀ a ∈ as, lo < a
  pairs : ∀ (j : Nat) (a : Addr), as[j]? = some a → ∃ x y, xs[j]? = some x ∧ ys[j]? = some y ∧ IsTupOf2 h a x y
theorem ZPr.there {xs ys : Array Value} {lo : Addr} {h : Heap} {as : List Addr} (g : ZPr xs ys lo h as) {a : Addr} (ha : a ∈ as) : a < h.objs.size := by
  obtain ⟨j, hj⟩ := List.mem_iff_getElem?.mp ha
  obtain ⟨_, _, _, _, e⟩ := g.pairs j a hj
  exact Heap.lt_size e
section
variable {prog : Program} {w : World} {A : Around} {s : Shared} {R : Result → Shared → Prop} {z TI TO p q a b S : Addr} {t1 t2 : Bool} {xs ys : Array Value}
end
section
variable {prog : Program} {w : World} {A : Around} {E : Value → Shared → Prop} {s : Shared} {z TI TO p q a b : Addr} {t1 t2 : Bool} {xs ys : Array Value}
end
/-! laid down -/
end Dw
end
section
/-! a tuple times 0 or 1 -/
namespace Dw
open PySem PySem.Spec PyProof.Rows L2
end Dw
end
section
/-! a caught exception that is kept: it is told from the catch on, so that isinstance can be asked of it behind the try -/
namespace Dw
open PySem PySem.Spec PyProof.Rows L2
/-- an exception of the class cls, that is no longer in the air -/
def ExcAt (a : Addr) (cls : Value) (d : Option Addr) : HO := .ext fun h => ∃ ob fv, h.get? a = some ob ∧ Zc cls d ob ∧ ob.data = .fields fv
section
variable {X : Cx} {pins : List (Addr × Obj)} {σ : L2.St} {H : Hp} {s : Shared}
theorem excAt_ok {P : Program} {w : World} {h : Heap} {a : Addr} {ob : Obj} {fv : Array Value} {cls : Value} {d : Option Addr} (e : h.get? a = some ob) (z : Zc cls d ob) (f : ob.data = .fields fv) : ObjOk P w H h a (ExcAt a cls d) :=
  ⟨⟨ob, fv, e, z, f⟩, ⟨ob, e⟩, fun _ _ ⟨o, v, e1, z1, f1⟩ k => ⟨o, v, k o e1, z1, f1⟩⟩
/-- an object that stands, is new since the def began and was not told, is told from now on -/
theorem track {a : Addr} {ob : Obj} {fv : Array Value} {cls : Value} {d : Option Addr} (I : Inv X pins σ H s) (e : s.heap.get? a = some ob) (z : Zc cls d ob) (f : ob.data = .fields fv) (na : H a = none) (new : X.s_0.heap.get? a = none) (nL : a ≠ X.env.locals) (nP : ∀ p ∈ X.pn ++ pins, p.1 ≠ a) :
    Inv X pins σ (upd H a (ExcAt a cls d)) s := by
  have other : ∀ {b : Addr} {u : HO}, H b = some u → upd H a (ExcAt a cls d) b = some u := fun {b u} q => by
    rw [upd_ne (fun y => by rw [y, na] at q; cases q)]
    exact q
  refine ⟨I.ok, I.os, I.bare, ⟨I.base.keep, I.base.slot, fun b o q n x => ?_, I.base.there, fun b xs q => other (I.base.tups b xs q), fun b o u q => other (I.base.frzs b o u q), fun b ps q => ?_⟩, I.loc, I.cell, ?_, fun y cc q => ?_, fun p hp => ?_, fun b o q => ?_, I.len⟩
  · rw [upd_ne (fun y => by rw [y, new] at q; cases q)]
    exact I.base.free b o q n x
  · obtain ⟨more, q2⟩ := I.base.tbls b ps q
    exact ⟨more, other q2⟩
  · rw [upd_ne (Ne.symm nL)]
    exact I.free
  · rw [upd_ne (fun y2 => ?_)]
    · exact I.freeC y cc q
    · obtain ⟨v, o, e2, d2⟩ := I.cell y cc q
      rw [y2, e] at e2
      cases e2
      rw [f] at d2
      cases d2
  · obtain ⟨p1, p2, p3⟩ := I.pin p hp
    exact ⟨p1, by rw [upd_ne (nP p hp)]; exact p2, p3⟩
  · by_cases ba : b = a
    · subst ba
      rw [upd_same] at q
      cases q
      exact excAt_ok e z f
    · rw [upd_ne ba] at q
      exact (I.hok b o q).stay (fun _ _ _ g => g) (fun _ g => other g) fun _ _ g => other g
/-- what the clause wishes: the class is one that it catches, and its suite goes on with the exception told -/
def wTrk (K : PySem.W.Frag) (c : Value) (i : Nat) (ts : TS) (D : Ends) : WX := fun cls d σ H =>
  PySem.W.exmOne K cls c = some true ∧ ∀ a, H a = none → ts ⟨fun σ' H' => D.nx (σ'.set i none) H', fun _ _ => False, fun _ _ => False, fun _ _ => False⟩ (σ.set i (some (.ref a))) (upd H a (ExcAt a cls d))
theorem in_suite (I : Inv X pins σ H s) (a : Addr) : Inv (X.suite a (X.pn ++ pins)) [] σ H s := ⟨I.ok.suite _ _, I.os, I.bare, I.base, I.loc, I.cell, I.free, I.freeC, fun p hp => I.pin p ((List.append_nil (X.pn ++ pins)) ▸ hp), I.hok, I.len⟩
theorem out_suite {a : Addr} (I : Inv (X.suite a (X.pn ++ pins)) [] σ H s) (ok : X.Ok) : Inv X pins σ H s := ⟨ok, I.os, I.bare, I.base, I.loc, I.cell, I.free, I.freeC, fun p hp => I.pin p (List.mem_append_left _ hp), I.hok, I.len⟩
end
section
variable {X : Cx} {x n : Str} {c : Value} {i : Nat} {body suite : List Stmt} {b0 : Stmt} {np p1 p2 : Pos} {tb : WX → TS} {ts : TS}
theorem ps_try_trk (st : X.stack = X.env :: X.outer) (fr : X.env.frame = some X.env.locals) (hex : X.ex = []) (nd : X.N.Nodup) (at_ : X.N[i]? = some n) (kd : X.env.kindOf n = some .local) (nm : Names X x c)
    (hb : ∀ (W : WX) (pn : List (Addr × Obj)) (xe : Value → Shared → Prop), Takes (X.tr pn xe) W → PassesOwn (model X.prog X.w) X.A X.env xe → PSs (X.tr pn xe) body (tb W)) (hsu : ∀ a pn, PSs (X.suite a pn) (b0 :: suite) ts) :
    PS X (.Try body [.ExceptHandler (some (.Name x np)) (some n) (b0 :: suite) p2] [] [] p1) (fun D σ H => tb (wTrk X.K c i ts D) D σ H) := by
  refine ⟨fun pins s σ H D I rd => wpAny_Try_except ?_⟩
  have around : X.A.frames = some (X.env :: X.outer) := I.ok.frames.trans (congrArg some st)
  refine wpAny_mono ((hb (wTrk X.K c i ts D) (X.pn ++ pins) _ (fun u s1 air => ?_) PassesOwn.looking).run [] s σ H D (I.toTry _) rd) (fun fl s1 fin => ?_) (fun _ _ q => q)
  · obtain ⟨a, B, sI, pins1, σ1, H1, cls, d, rfl, J1, ground, slots, sky, na, os, gens, hit, wish⟩ := air
    have J : Inv X pins σ1 H1 sI := J1.ofTry I.ok
    refine Sky.land Zc.steady around fr (show Sky B (X.env :: X.outer) a (Zc cls d) X.env.locals s1.heap from st ▸ sky) fun h2 fly2 slots2 => ?_
    have J2 : Inv X pins σ1 H1 { s1 with heap := h2 } := J.landed ground fly2.1 (slots.trans slots2) os gens
    obtain ⟨ob2, fv2, got2, z2, f2⟩ := fly2.there
    have noFrame : a ∉ frs X.stack := fun m => by
      rw [st] at m
      obtain ⟨_, o', g', no⟩ := fly2.2.2.1.mem m
      rw [got2] at g'
      cases g'
      exact no _ f2
    have newI : sI.heap.get? a = none := by
      cases g : sI.heap.get? a with
      | none => rfl
      | some o =>
        have q := ground a o g noFrame
        rw [fly2.2.1] at q
        cases q
    have new0 : X.s_0.heap.get? a = none := by
      cases g : X.s_0.heap.get? a with
      | none => rfl
      | some o =>
        by_cases ex : a ∈ X.ex
        · rw [hex] at ex
          cases ex
        · obtain ⟨o', q⟩ := J.base.there a o g ex
          rw [newI] at q
          cases q
    have notL : a ≠ X.env.locals := fun q => noFrame (by
      rw [st]
      exact List.mem_filterMap.mpr ⟨X.env, List.mem_cons_self .., by rw [fr, q]⟩)
    have notP : ∀ p ∈ X.pn ++ pins, p.1 ≠ a := fun p hp q => by
      have g := (J.pin p hp).1
      rw [q, newI] at g
      cases g
    refine wpAny_handleBy_cons (codeAny_handlers_test ?_) (fun q => nomatch q)
    have typ : PySem.W.Looks (model X.prog X.w) h2 (typeOf (.ref a)) cls := fun A Q E s' k q => wpAny_typeOf_ref (k _ _ got2) (by rw [z2.1]; exact q)
    have yes := PySem.W.exm_one (M := model X.prog X.w) J2.kIn typ hit
    have named : ∀ {Q : Value → Shared → Prop} {E : Value → Shared → Prop}, Q c { s1 with heap := h2 } → wpAny (model X.prog X.w) (X.A.mark (some (.ref a))) (eval (.Name x np) X.env) Q E { s1 with heap := h2 } := fun {Q E} q => by
      obtain ⟨g, nodbg, m | ⟨m, bt, nn⟩⟩ := nm
      · exact ld_glob (in_suite J2 a) g m q nodbg
      · exact ld_blt (in_suite J2 a) g m bt q nn nodbg
    refine named (yes.here (codeAny_handlers_suite_as (HandSPX.lands_againZ fly2 fun h3 fly3 slots3 => ?_)))
    have J3 : Inv X pins σ1 H1 { s1 with heap := h3 } := J.landed ground fly3.1 ((slots.trans slots2).trans slots3) os gens
    obtain ⟨ob3, fv3, got3, z3, f3⟩ := fly3.there
    have T3 := in_suite (track J3 got3 z3 f3 na new0 notL notP) a
    refine store_ok (X := X.suite a (X.pn ++ pins)) (v := .ref a) T3 nd at_ (.inl kd) rfl (fun s4 T4 => ?_) (.inr kd)
    refine wpAny_mono ((hsu a (X.pn ++ pins)).run [] s4 _ _ _ T4 (wish a na)) (fun fl s5 fin => ?_) (fun _ _ q => q.elim)
    cases fl with
    | next =>
      obtain ⟨σ5, H5, T5, q5⟩ := fin
      exact gone_ok (out_suite T5 I.ok) nd at_ kd fun s6 J6 => ⟨_, _, J6, q5⟩
    | brk => exact fin.elim fun _ ⟨_, _, q⟩ => q.elim
    | cont => exact fin.elim fun _ ⟨_, _, q⟩ => q.elim
    | ret u => exact fin.elim fun _ ⟨_, _, _, _, q⟩ => q.elim
  · cases fl with
    | next =>
      obtain ⟨σ2, H2, J2, q⟩ := fin
      exact wpAny_execs_nil ⟨σ2, H2, J2.ofTry I.ok, q⟩
    | brk =>
      obtain ⟨σ2, H2, J2, q⟩ := fin
      exact ⟨σ2, H2, J2.ofTry I.ok, q⟩
    | cont =>
      obtain ⟨σ2, H2, J2, q⟩ := fin
      exact ⟨σ2, H2, J2.ofTry I.ok, q⟩
    | ret u =>
      obtain ⟨v, σ2, H2, J2, r, q⟩ := fin
      exact ⟨v, σ2, H2, J2.ofTry I.ok, r, q⟩
end
end Dw
end
section
/-! isinstance of a kept exception; defs that raise, called in a try -/
namespace Dw
open PySem PySem.Spec PyProof.Rows L2 Evl
/-- a def that keeps a promise and may raise -/
structure ClX (P : Program) (w : World) (K : PySem.W.Frag) (mg : Str → Option Value) (base : Heap) (k : Nat) (x : Str) (sp : Sp) : Prop where
  ex : ∃ (f : Addr) (fd : FuncData) (ps : List Str), FnOk P w K mg base (L2.CX P w) k f fd ps sp ∧ mg x = some (.ref f) ∧ PySem.W.keepIn K (.ref f) = true ∧ Binds K fd ps []
theorem clx_of {P : Program} {w : World} {K : PySem.W.Frag} {mg : Str → Option Value} {base : Heap} {x : Str} {st : Stmt} {N ps : List Str} {k : Nat} {sp : Sp} (D : Df K mg x st ps) (S : FnScope N ps (defScope st)) (len : ∀ vs H Q E, sp vs H Q E → vs.length = ps.length)
    (body : ∀ (f : Addr) (cdv : Value) (A : Around) (outer : List Env) (s : Shared) (H : Hp) (vs : List V) (Q : VK) (E : XK), Room k (A.deeper (envOfC x (defScope st) s.heap.objs.size f cdv)) → sp vs H Q E →
      ∃ t, PSs (cxOf (L2.CX P w) P w K mg base N x (defScope st) f cdv A outer s H E) (defBody st) t ∧ t { nx := fun _ H' => Q .non H', rt := Q } (start N vs) H) : ClX P w K mg base (k + 1) x sp := by
  obtain ⟨f, fd, F, m, b⟩ := D.ex
  exact ⟨f, fd, ps, F.okX S len (fun cdv A outer s H vs Q E hr h => body f cdv A outer s H vs Q E hr h), m, F.kp, b⟩
/-- its call where the wish of what is raised is W -/
theorem pe_clX {X : Cx} {k j : Nat} {x : Str} {sp : Sp} {p pos : Pos} {e : Expr} {es : List Expr} {t : TA} {W : WX} (c : ClX X.prog X.w X.K X.mg X.base k x sp) (tk : Takes X W) (hr : Room j X.A) (hk : k ≤ j) (hg : Gl X x) (ha : PA X (e :: es) t)
    (dbg : (x == ("__debug__" : Str)) = false := by decide) (str : starEach (e :: es) X.env = (false, eval e X.env) :: starEach es X.env := by rfl) (bck : (backTo pos (starEach es X.env)).any (·.1) = false := by rfl) :
    PE X (.Call (.Name x p) (e :: es) [] pos) (tCallS sp (fun σ => WE W σ) t) := by
  obtain ⟨f, fd, ps, F, m, kp, b⟩ := c.ex
  exact pe_callS F (hr.mono hk) hg m kp b (fun σ => passAt tk σ) ha dbg str bck
/-- a pure promise of a new thing -/
def spF {α : Type} (pre : α → List V → Hp → Prop) (post : α → V → Hp → Prop) : Sp := fun vs H Q _ => ∃ a, pre a vs H ∧ ∀ v H', Ex H H' → post a v H' → (∀ d, v = .ref d → H d = none) → Q v H'
/-- what the top says of an error's class -/
structure ExcT (K : PySem.W.Frag) (mg : Str → Option Value) (x : Str) (C : Addr) : Prop where
  g : mg x = some (.ref C)
  k : PySem.W.keepIn K (.ref C) = true
  q : PySem.W.excIn K C [.type "ValueError", .type "Exception", .type "BaseException", .type "object"] "ValueError.__new__" = true
  t : PySem.W.typeIn K (.ref C) = some (.type "type")
  c : ExcC K C
end Dw
end
section
/-! repr of a written list with dicts of data among its items -/
namespace Dw
open PySem PySem.Spec PyProof.Rows L2 Evl
/-! data of texts, numbers and tuples alone: no place is told of it -/
mutual
def noL : PyData → Bool
  | .none | .bool _ | .int _ | .str _ => true
  | .tuple xs => noLs xs
  | .list _ | .dict _ => false
def noLs : List PyData → Bool
  | [] => true
  | x :: xs => noL x && noLs xs
end
section
variable {X : Cx} {pins : List (Addr × Obj)} {σ : L2.St} {H : Hp} {s : Shared}
end
/-! sizes -/
structure Gs (k W : Nat) (d : PyData) : Prop where
  dep : d.depth ≤ k
  wgt : d.weight ≤ W
  its : d.leavesShort 13 = true
  sho : d.showable = true
theorem Gs.mono {k W k' W' : Nat} {d : PyData} (h : Gs k W d) (a : k ≤ k') (b : W ≤ W') : Gs k' W' d := ⟨Nat.le_trans h.dep a, Nat.le_trans h.wgt b, h.its, h.sho⟩
theorem Gs.len {k W : Nat} {d : PyData} (h : Gs k W d) (b : W ≤ 1000000) : d.shown.length ≤ sizeLine := by
  have z := PyData.shown_le 13 (by decide) d h.its
  have y := h.wgt
  rw [sizeLine_eq]
  omega
end Dw
end
section
/-! == and != of deep data; isinstance of what was caught or of None, one class or a written tuple of them -/
namespace Dw
open PySem PySem.Spec PyProof.Rows L2 Evl
/-- None, or a kept exception: its type -/
def TyC (K : PySem.W.Frag) (H : Hp) (x : V) (t : Value) : Prop := (x = .non ∧ t = .type "NoneType") ∨ ∃ (a C : Addr), x = .ref a ∧ H a = some (ExcAt a (.ref C) none) ∧ ExcC K C ∧ t = .ref C
theorem TyC.ex {K : PySem.W.Frag} {H H' : Hp} {x : V} {t : Value} (e : Ex H H') (h : TyC K H x t) : TyC K H' x t := h.imp id fun ⟨a, C, h1, h2, h3, h4⟩ => ⟨a, C, h1, e _ _ h2, h3, h4⟩
theorem tyc_kit {X : Cx} {pins : List (Addr × Obj)} {σ : L2.St} {H : Hp} {s : Shared} {x : V} {t v : Value} (I : Inv X pins σ H s) (h : TyC X.K H x t) (r : RelV x v) : ∃ Pr, PySem.W.KitX X.K v t Pr ∧ Pr s.heap ∧ v ≠ .builtin "__main__.__loader__#opaque" := by
  rcases h with ⟨rfl, rfl⟩ | ⟨a, C, rfl, ha, xc, rfl⟩
  · obtain ⟨P, Z, p, hx⟩ := kit_of I r (tyx_non (K := X.K) (H := H))
    exact ⟨P, Z, p, hx⟩
  · cases (show v = Value.ref a from r)
    obtain ⟨⟨ob, fv, got, ⟨hc, hd⟩, hf⟩, _⟩ := (show ObjOk X.prog X.w H s.heap a (ExcAt a (.ref C) none) from I.hok a _ ha)
    have inst : PySem.W.InstAt s.heap a ob C none := by
      obtain ⟨c1, d1, t1, l1⟩ := ob
      cases (show c1 = Value.ref C from hc)
      cases (show d1 = none from hd)
      cases (show t1 = .fields fv from hf)
      exact ⟨got, rfl, rfl, trivial⟩
    exact ⟨_, PySem.W.handS_kitx_exc xc.hg xc.hk xc.hs xc.hd xc.ha xc.hn xc.ht xc.hm, inst, fun z => nomatch z⟩
def rIsC (K : PySem.W.Frag) : List V → Hp → VK → Prop := fun xs H Q => ∃ (x c : V) (t u : Value) (b : Bool), xs = [x, c] ∧ ClsV c u ∧ TyC K H x t ∧ PySem.W.kitOne K t u = some b ∧ Q (.bl b) H
theorem call_isC {X : Cx} : CallR X (.builtin "isinstance") (rIsC X.K) := by
  intro pins s σ H xs us Q I r h
  obtain ⟨x, c, t, u, b, rfl, k, ty, e, q⟩ := h
  obtain ⟨u1, u2, rfl, r1, r2⟩ := vals2 r
  have e2 := k.eq r2
  subst e2
  obtain ⟨P, Z, p, hx⟩ := tyc_kit I ty r1
  exact PySem.W.kia_one Z I.kIn p e hx fun tk => ⟨.bl b, H, I.tok tk, rfl, q⟩
theorem ev_isC {K : PySem.W.Frag} {σ : L2.St} {H : Hp} {ta tb : TE} {x c : V} {t u : Value} {b : Bool} (ha : Ev ta σ H x) (hc : Ev tb σ H c) (k : ClsV c u) (ty : TyC K H x t) (e : PySem.W.kitOne K t u = some b) : Ev (tCB (rIsC K) (tCons ta (tCons tb tNil))) σ H (.bl b) :=
  fun H1 e1 Q q => ha H1 e1 _ fun H2 e2 => hc H2 (e1.trans e2) _ fun H3 e3 => ⟨x, c, t, u, b, rfl, k, ty.ex ((e1.trans e2).trans e3), e, q H3 (e2.trans e3)⟩
end Dw
end
section
/-! defs that are only called where nothing is being shown, and repr in them -/
namespace Dw
open PySem PySem.Spec PyProof.Rows L2 Evl
end Dw
end
section
/-! in of a tuple of data; repr of deep data -/
namespace Dw
open PySem PySem.Spec PyProof.Rows L2 Evl
end Dw
end
section
/-! tuple * int, the int small, below 1 too -/
namespace Dw
open PySem PySem.Spec PyProof.Rows L2 Evl
theorem tuple_mul1 (l : Addr) (items : Array Value) (n : Nat) (dd : Option Addr) (sl : Array (Option Value)) (x : Int) (u : Tok) (hx : x = 1) :
    Meets (Builtin.«tuple.__mul__» ⟨[.ref l, .int x u], []⟩) (fun _ R s => s.heap.get? l = some { cls := .type "tuple", dict := dd, data := .seq items n, slots := sl } ∧ R (.ok (.ret (Value.ref l))) s) :=
  .of_wp fun prog w A R s h => by
    obtain ⟨hp, g, d, tk, os⟩ := s
    obtain ⟨hl, h⟩ := h
    have f1 := AutoSeq1.idx_int
    have c0 : (decide (x < -(2 ^ 63)) || decide (x ≥ 2 ^ 63)) = false := by
      rw [decide_eq_false (by omega), decide_eq_false (by omega)] <;> rfl
    have c1 : (items.isEmpty || x == 1) = true := by
      rw [hx]
      simp
    wp_walk using wpAny_loadPart' hl
    repeat (first
      | (refine wpAny_ite_false (decide_eq_false (by rw [c0]; exact Bool.false_ne_true)) ?_; wp_walk using wpAny_loadPart' hl)
      | (refine wpAny_ite_true (decide_eq_true (by rw [c1])) ?_; wp_walk using wpAny_loadPart' hl))
    exact ⟨_, rfl, h⟩
theorem tuple_mul0 (l : Addr) (items : Array Value) (n : Nat) (dd : Option Addr) (sl : Array (Option Value)) (x : Int) (u : Tok) (hx : x ≤ 0) (h10 : -10 ≤ x) (ne : items.isEmpty = false) :
    Meets (Builtin.«tuple.__mul__» ⟨[.ref l, .int x u], []⟩) (fun _ R s => s.heap.get? l = some { cls := .type "tuple", dict := dd, data := .seq items n, slots := sl } ∧
      R (.ok (.ret (Value.ref s.heap.objs.size))) { s with heap := s.heap.push { cls := Value.type "tuple", data := Data.seq #[] }, toks := s.toks }) :=
  .of_wp fun prog w A R s h => by
    obtain ⟨hp, g, d, tk, os⟩ := s
    obtain ⟨hl, h⟩ := h
    have f1 := AutoSeq1.idx_int
    have c0 : (decide (x < -(2 ^ 63)) || decide (x ≥ 2 ^ 63)) = false := by
      rw [decide_eq_false (by omega), decide_eq_false (by omega)] <;> rfl
    have c1 : (items.isEmpty || x == 1) = false := by
      rw [ne, Bool.false_or]
      exact beq_eq_false_iff_ne.mpr (by omega)
    have c2 : (decide (x ≤ 0) || items.isEmpty) = true := by
      rw [decide_eq_true hx]
      rfl
    wp_walk using wpAny_loadPart' hl
    repeat (first
      | (refine wpAny_ite_false (decide_eq_false (by rw [c0]; exact Bool.false_ne_true)) ?_; wp_walk using wpAny_loadPart' hl)
      | (refine wpAny_ite_false (decide_eq_false (by rw [c1]; exact Bool.false_ne_true)) ?_; wp_walk using wpAny_loadPart' hl)
      | (refine wpAny_ite_true (decide_eq_true (by rw [c2])) ?_; wp_walk using wpAny_loadPart' hl))
    exact ⟨_, rfl, h⟩
/-- tuple * int: nothing, itself, or so often -/
def rRepTA (K : PySem.W.Frag) : R2 := fun x y H Q => ∃ l k xs, x = .ref l ∧ y = .int k ∧ SqT K H l xs ∧ xs ≠ [] ∧ -10 ≤ k ∧ k ≤ 1000 ∧ xs.length ≤ 1000 ∧
  (k ≤ 0 → ∀ p, H p = none → Q (.ref p) (upd H p (.tup []))) ∧ (k = 1 → Q (.ref l) H) ∧ (2 ≤ k → ∀ p, H p = none → Q (.ref p) (upd H p (.tup (List.replicate k.toNat xs).flatten)))
theorem op_repTA {X : Cx} : OpR X (binaryOp .Mult) (rRepTA X.K) := by
  intro pins s σ H x y v u Q I rx ry h
  obtain ⟨l, k, xs, rfl, rfl, hT, hne, h0, h2, hz, q0, q1, q2⟩ := h
  by_cases k2 : 2 ≤ k
  · exact op_repT pins s σ H _ _ _ _ Q I rx ry ⟨l, k, xs, rfl, rfl, hT, hne, k2, h2, hz, q2 k2⟩
  cases rx
  obtain ⟨t, rfl⟩ := ry
  obtain ⟨its, r, ⟨⟨cls, dd, data, sl⟩, ho, hc, n, hd⟩, hs⟩ := I.tuple hT
  simp only at hc hd
  subst hc hd
  have hle : its.length = xs.length := r.length.symm
  have hn : its ≠ [] := fun e => hne (by
    rw [e] at hle
    exact List.eq_nil_of_length_eq_zero hle.symm)
  have hi : its.toArray.isEmpty = false := by
    cases its with
    | nil => exact absurd rfl hn
    | cons a b => rfl
  by_cases k1 : k = 1
  · exact wpAny_binaryOp_repeat_ref (T := "tuple") (U := "int") (by decide) ⟨_, ho, rfl⟩ (fun s' => typeIs_int s' k t) noFill_tuple_mul F.fills_int_mul F.slot_int_rmul repeat_tuple F.slot_int_index.lookup
      (call_meets F.slot_int_rmul (typeIs_int s k t) F.entry_int_rmul (F.args_int_rmul_2 _ _) (int_rmul_tuple k t l its.toArray n dd sl)
        ⟨ho, rfl, ⟨_, ho, rfl⟩, call_meets F.slot_tuple_mul ⟨_, ho, rfl⟩ F.entry_tuple_mul (F.args_tuple_mul_2 _ _) (tuple_mul1 l its.toArray n dd sl k t k1) ⟨ho, ⟨.ref l, H, I, rfl, q1 k1⟩⟩⟩)
  · have k0 : k ≤ 0 := by omega
    refine wpAny_binaryOp_repeat_ref (T := "tuple") (U := "int") (by decide) ⟨_, ho, rfl⟩ (fun s' => typeIs_int s' k t) noFill_tuple_mul F.fills_int_mul F.slot_int_rmul repeat_tuple F.slot_int_index.lookup
      (call_meets F.slot_int_rmul (typeIs_int s k t) F.entry_int_rmul (F.args_int_rmul_2 _ _) (int_rmul_tuple k t l its.toArray n dd sl)
        ⟨ho, rfl, ⟨_, ho, rfl⟩, call_meets F.slot_tuple_mul ⟨_, ho, rfl⟩ F.entry_tuple_mul (F.args_tuple_mul_2 _ _) (tuple_mul0 l its.toArray n dd sl k t k0 h0 hi) ⟨ho, ?_⟩⟩)
    refine ⟨.ref s.heap.objs.size, _, I.laid (t' := s.toks) (o := .tup []) (fun b ob q => Heap.get?_push_of_some _ q) (Nat.le_refl _) ?_, rfl, q0 k0 _ (I.hok.fresh (Nat.le_refl _))⟩
    exact ⟨Nat.zero_le _, [], .nil, IsTup.new _ _⟩
end Dw
end
section
/-! max of a tuple of numbers -/
namespace Dw
open PySem PySem.Spec PyProof.Rows L2 Evl PySem.W
theorem maxOf_ge : ∀ (xs : List Int) (x : Int), (∀ y ∈ x :: xs, y ≤ maxOf x xs) ∧ maxOf x xs ∈ x :: xs
  | [], x => ⟨fun y hy => by rw [List.mem_singleton.mp hy]; exact Int.le_refl _, List.mem_cons_self ..⟩
  | z :: xs, x => by
    have e : maxOf x (z :: xs) = maxOf (if x < z then z else x) xs := by
      unfold maxOf
      rw [List.foldl_cons]
      congr 1
      show (if decide (x < z) = true then z else x) = _
      by_cases h : x < z
      · rw [decide_eq_true h, if_pos rfl, if_pos h]
      · rw [decide_eq_false h, if_neg Bool.false_ne_true, if_neg h]
    obtain ⟨a, b⟩ := maxOf_ge xs (if x < z then z else x)
    rw [e]
    have c := a _ (List.mem_cons_self ..)
    refine ⟨fun y hy => ?_, ?_⟩
    · rcases List.mem_cons.mp hy with rfl | hy
      · split at c
        · rename_i h; rw [if_pos h]; omega
        · rename_i h; rw [if_neg h]; exact c
      · rcases List.mem_cons.mp hy with rfl | hy
        · split at c
          · rename_i h; rw [if_pos h]; exact c
          · rename_i h; rw [if_neg h]; omega
        · exact a y (List.mem_cons_of_mem _ hy)
    · rcases List.mem_cons.mp b with b | b
      · rw [b]
        split
        · exact List.mem_cons_of_mem _ (List.mem_cons_self ..)
        · exact List.mem_cons_self ..
      · exact List.mem_cons_of_mem _ (List.mem_cons_of_mem _ b)
def rMaxT (K : PySem.W.Frag) : List V → Hp → VK → Prop := fun vs H Q => ∃ (a : Addr) (ns : List Int), vs = [V.ref a] ∧ SqT K H a (ns.map V.int) ∧ 0 < ns.length ∧ ∀ m, m ∈ ns → (∀ y, y ∈ ns → y ≤ m) → Q (.int m) H
theorem cr_maxT {X : Cx} {k : Nat} (hc : X.calm = true) (hr : Room k X.A) : CallR X (.builtin "max") (rMaxT X.K) := by
  intro pins s σ H vs us Q I r h
  obtain ⟨a, ns, rfl, hs, hne, q⟩ := h
  obtain ⟨its, rv, hl, _⟩ := I.tuple hs
  rw [Vals.ref1 r]
  cases ns with
  | nil => exact absurd hne (Nat.lt_irrefl 0)
  | cons x xs =>
    have hi : IntsAre its.toArray.toList (x :: xs) := by rw [List.toList_toArray]; exact ints_of rv
    have hu := hr.units
    have ho : HoldAll s.heap its.toArray.toList (x :: xs) := ⟨[], ints_readAll _ hi⟩
    refine max_tuple_datum (α := Int) (I.ok.hd hc) hl ho (by show X.A.units + 1 + 0 < _; omega) fun i v h' tk hv ho2 hk => ?_
    obtain ⟨a2, b2⟩ := maxOf_ge xs x
    obtain ⟨as, rd⟩ := ho2
    have rd' : Reads h' v (.int (maxOf x xs)) as := rd
    cases rd' with
    | int _ t => exact ⟨.int _, H, I.kept hk, ⟨t, rfl⟩, q _ b2 a2⟩
end Dw
end
section
/-! sorted lists: one for the same members -/
namespace M25
open M20
def ia (a : List Nat) : List Int := a.map fun k => ((k : Nat) : Int)
def leO (a b : List Nat) : Bool := decide (ia a ≤ ia b)
def srtO (os : List (List Nat)) : List (List Nat) := os.mergeSort leO
theorem srt_perm (os : List (List Nat)) : (srtO os).Perm os := List.mergeSort_perm _ _
theorem srt_mem {os : List (List Nat)} {a : List Nat} : a ∈ srtO os ↔ a ∈ os := (srt_perm os).mem_iff
theorem srt_len (os : List (List Nat)) : (srtO os).length = os.length := (srt_perm os).length_eq
/-- rising lists of one kind of members are one -/
theorem up_one {l m : List Int} (hl : l.Pairwise (· < ·)) (hm : m.Pairwise (· < ·)) (h : ∀ x, x ∈ l ↔ x ∈ m) : l = m := by
  induction l generalizing m with
  | nil =>
    cases m with
    | nil => rfl
    | cons y m => exact absurd ((h y).mpr (List.mem_cons_self ..)) (by simp)
  | cons x l ih =>
    cases m with
    | nil => exact absurd ((h x).mp (List.mem_cons_self ..)) (by simp)
    | cons y m =>
      rw [List.pairwise_cons] at hl hm
      have e : x = y := by
        rcases List.mem_cons.mp ((h x).mp (List.mem_cons_self ..)) with z | z
        · exact z
        · rcases List.mem_cons.mp ((h y).mpr (List.mem_cons_self ..)) with z2 | z2
          · exact z2.symm
          · have := hl.1 y z2
            have := hm.1 x z
            omega
      subst e
      rw [ih hl.2 hm.2 fun z => ⟨fun hz => by
        rcases List.mem_cons.mp ((h z).mp (List.mem_cons_of_mem _ hz)) with e | e
        · have := hl.1 z hz
          omega
        · exact e, fun hz => by
        rcases List.mem_cons.mp ((h z).mpr (List.mem_cons_of_mem _ hz)) with e | e
        · have := hm.1 z hz
          omega
        · exact e⟩]
theorem ia_up {l : List Nat} (h : l.Pairwise (· < ·)) : (ia l).Pairwise (· < ·) := by
  unfold ia
  rw [List.pairwise_map]
  exact h.imp fun z => Int.ofNat_lt.mpr z
theorem nd_few {l : List Int} {B : Nat} (nd : l.Nodup) (h : ∀ x ∈ l, 0 ≤ x ∧ x < B) : l.length ≤ B := by
  have nd2 : (l.map Int.toNat).Nodup := by
    rw [List.nodup_iff_pairwise_ne, List.pairwise_map]
    refine (List.nodup_iff_pairwise_ne.mp nd).imp_of_mem fun {a b} ha hb ne e => ne ?_
    have h1 := h a ha
    have h2 := h b hb
    omega
  have := len_le (l.map Int.toNat) (List.range B) nd2 fun x hx => by
    obtain ⟨y, hy, rfl⟩ := List.mem_map.mp hx
    have := h y hy
    exact List.mem_range.mpr (by omega)
  rw [List.length_map, List.length_range] at this
  exact this
end M25
namespace M25
open M20
end M25
end
section
/-! sets of numbers: set(a list), known well enough that they can be sorted -/
namespace Dw
open PySem PySem.Spec PyProof.Rows L2
/-- a set at a of just the numbers in xs -/
def ISet (w : World) (h : Heap) (a : Addr) (xs : List Int) : Prop := ∃ n, n ≤ xs.length ∧ SetR w h a (fun k => decide (k ∈ xs)) n
theorem ISet.at {w : World} {h h' : Heap} {a : Addr} {xs : List Int} (T : ISet w h a xs) (k : ∀ o, h.get? a = some o → h'.get? a = some o) : ISet w h' a xs := let ⟨n, l, r⟩ := T; ⟨n, l, r.at k⟩
section
variable {P : Program} {w : World} {A : Around} {E : Value → Shared → Prop} {s : Shared}
theorem iset_add {a : Addr} {xs : List Int} {x : Int} {tk : Tok} {Q : Bool → Shared → Prop} (T : ISet w s.heap a xs) (room : xs.length + 1 < scanBound)
    (next : ∀ h', Heap.SameBut a s.heap h' → ISet w h' a (xs ++ [x]) → ∀ b, Q b { s with heap := h' }) : wpAny (model P w) A (setAddHashed a (.int x tk) ((intKind P w).hash x)) Q E s := by
  obtain ⟨n, l, r⟩ := T
  refine setR_add_hashed r (by omega) fun h' but r2 => next h' but ⟨_, ?_, SetR.congr r2 fun k => ?_⟩ _
  · rw [List.length_append]
    split
    · omega
    · show n + 1 ≤ xs.length + 1
      omega
  · show decide (k ∈ xs ++ [x]) = (decide (k ∈ xs) || decide (k = x))
    by_cases h1 : k ∈ xs
    · rw [decide_eq_true h1, decide_eq_true (List.mem_append_left _ h1)]
      rfl
    · by_cases h2 : k = x
      · rw [decide_eq_true h2, decide_eq_true (List.mem_append_right _ (List.mem_singleton.mpr h2)), Bool.or_true]
      · rw [decide_eq_false h1, decide_eq_false h2, decide_eq_false (fun z => by
          rcases List.mem_append.mp z with z | z
          · exact h1 z
          · exact h2 (List.mem_singleton.mp z))]
        rfl
theorem iset_fresh {h : Heap} {a : Addr} (at_ : h.get? a = some (newSet w)) : ISet w h a [] := by
  refine ⟨0, Nat.le_refl _, _, #[], 0, _, at_, ⟨rfl, rfl, rfl⟩, rfl, (fun e he => by simp at he), (by simp), (fun k => by simp), (by decide), (by rfl), rfl, List.Pairwise.nil, ?_⟩
  show _ ∨ (!w.params.followText "set-order") = true
  cases w.params.followText "set-order"
  · exact .inr rfl
  · exact .inl rfl
/-- set.update's loop over numbers -/
theorem int_loop {I S : Addr} {fp wr : List Addr} {G : Array GenState → Array GenState → Prop} {n : Nat} {Pv : Nat → Value → Prop} {St : Nat → Shared → Prop} {R : Result → Shared → Prop} (W : WalksS P w A.in1 I fp wr G n Pv St) (off : S ∉ fp) (xs : List Int) (len : n = xs.length)
    (few : xs.length < 1000) (vals : ∀ i v, Pv i v → ∃ x tk, xs[i]? = some x ∧ v = Value.int x tk) :
    ∀ (left i : Nat) (s : Shared), n - i = left → i ≤ n → St i s → ISet w s.heap S (xs.take i) → (∀ s', Moved (S :: wr) G s s' → ISet w s'.heap S xs → R (.ok (.ret .none)) s') →
      codeAny (model P w) A (.builtin "set.update.loop" ⟨[.ref S, .ref I], []⟩) R s := by
  have offW : S ∉ wr := fun z => off (W.sub _ z)
  intro left
  induction left with
  | zero =>
    intro i s e le st T end_
    have all : i = n := by omega
    subst all
    refine codeAny_builtin F.entry_set_update_loop ?_
    rw [Around.under_plainId F.plain_set_update_loop _]
    refine wpAny_bind (m := pyNext (.ref I)) (W.done s _ _ st fun s1 mv => ?_)
    refine wpAny_pure (end_ s1 (mv.mono fun b hb => List.mem_cons_of_mem _ hb) ?_)
    rw [len, List.take_length] at T
    exact T.at fun o q => mv.heap S o offW q
  | succ left ih =>
    intro i s e le st T end_
    have lt : i < n := by omega
    refine codeAny_builtin F.entry_set_update_loop ?_
    rw [Around.under_plainId F.plain_set_update_loop _]
    refine wpAny_bind (m := pyNext (.ref I)) (W.item i s _ _ lt st fun v s1 pv st1 mv => ?_)
    obtain ⟨x, tk, hx, isx⟩ := vals i v pv
    subst isx
    have T1 : ISet w s1.heap S (xs.take i) := T.at fun o q => mv.heap S o offW q
    have l1 : (xs.take i).length ≤ i := List.length_take_le _ _
    have room : (xs.take i).length + 1 < scanBound := by
      show _ < 4096
      omega
    show wpAny _ A.in1 (holding [Value.int x tk] (setAdd S (Value.int x tk)) >>= _) _ _ s1
    refine wpAny_bind (wpAny_holding ?_)
    unfold setAdd
    refine wpAny_holding (wpAny_bind ((intKind P w).pyHash (intKind_is P w x tk) ?_))
    refine iset_add (s := { s1 with toks := s1.toks + 1 }) T1 room fun h' but T2 _ => ?_
    have T3 : ISet w h' S (xs.take (i + 1)) := by
      rw [List.take_add_one, hx]
      exact T2
    refine wpAny_pure ⟨plainId_quiet F.plain_set_update_loop _, ih (i + 1) _ (by omega) lt (W.frame _ s1 _ _ st1 (Nat.le_add_right _ _) fun b hb o q => ?_) T3 fun s2 mv2 T4 => ?_⟩
    · rw [but.2 b (fun z : b = S => off (z ▸ hb))]
      exact q
    · refine end_ s2 (Moved.trans W.gtrans ((mv.mono fun b hb => List.mem_cons_of_mem _ hb).then_heap (Nat.le_add_right _ _) fun b o nb q => ?_) mv2) T4
      rw [but.2 b (fun z : b = S => nb (z ▸ List.mem_cons_self ..))]
      exact q
/-- set(a list of numbers) -/
theorem call_setI {l : Addr} {cells : Array Value} {xs : List Int} {Q : Value → Shared → Prop} (calm : A.handled = none) (isL : s.heap.IsList l cells) (txts : IntsAre cells.toList xs) (few : xs.length < 1000)
    (next : ∀ (h' : Heap) (tk : Nat), ISet w h' s.heap.objs.size xs → (∀ b o, s.heap.get? b = some o → h'.get? b = some o) → Q (.ref s.heap.objs.size) { s with heap := h', toks := tk }) :
    wpAny (model P w) A (call (.type "set") [.ref l]) Q E s := by
  have size : cells.size = xs.length := by
    have z := txts.length
    rw [Array.length_toList] at z
    exact z
  obtain ⟨c, tl, isMro⟩ := F.called_set.mro
  have made := F.called_set.made
  have under := F.called_set.sub
  refine wpAny_call (codeAny_of_tree ?_)
  show wpAny _ _ (callAny (.type "set") _) _ _ _
  refine wpAny_pure ⟨Code.quiet_builtin _ (by decide +kernel), codeAny_builtin F.entry_type_call ?_⟩
  rw [Around.under_plain (weight_type_call_type "set" [.ref l] []) rfl]
  have k1 := F.called_set.notType
  have k2 := F.called_set.canCreate
  have k3 := F.typeCall_set_1 (.ref l)
  repeat (any_goals (first | assumption | wp_step))
  refine codeAny_mono (code_set_led1 (.ref l) (E := E) (Q₁ := fun ob s1 => ob = .ref s.heap.objs.size ∧ s1 = { s with heap := s.heap.push (newSet w) }) ⟨rfl, rfl⟩) fun r s1 done => ?_
  match r, done with
  | .error _, bad => exact bad
  | .ok .next, bad => exact bad.elim
  | .ok .brk, bad => exact bad.elim
  | .ok .cont, bad => exact bad.elim
  | .ok (.ret ob), both =>
    obtain ⟨e1, e2⟩ := both
    subst e1
    subst e2
    have atS : (s.heap.push (newSet w)).get? s.heap.objs.size = some (newSet w) := Heap.get?_push_size _ rfl
    have isS : Shared.TypeIs { s with heap := s.heap.push (newSet w) } (.ref s.heap.objs.size) "set" := ⟨_, atS, rfl⟩
    have i1 := F.called_set.init.lookup
    have i2 := F.called_set.init.bind (.ref s.heap.objs.size)
    repeat (any_goals (first | assumption | wp_step))
    refine codeAny_mono (codeAny_call_builtin (R := wants (fun r s2 => r = .none ∧ ∃ h' tk, s2 = { s with heap := h', toks := tk } ∧ ISet w h' s.heap.objs.size xs ∧ ∀ b o, s.heap.get? b = some o → h'.get? b = some o) E) F.called_set.init.plain F.entry_set_init (check_set_init_1 isS ?_)) fun r2 s2 done2 => ?_
    · obtain ⟨⟨cl, dc, dat, sl⟩, atL, isCls, cap, isSeq⟩ := isL
      have c1 : cl = .type "list" := isCls
      have c2 : dat = .seq cells cap := isSeq
      subst c1
      subst c2
      have atL1 : (s.heap.push (newSet w)).get? l = some { cls := .type "list", dict := dc, data := .seq cells cap, slots := sl } := Heap.get?_push_of_some _ atL
      have n1 := F.sub_list_set
      have n2 := F.sub_list_frozenset
      have n3 : (Value.type "list" == Value.type "dict") = false := by decide
      have isL1 : (s.heap.push (newSet w)).IsList l cells := ⟨_, atL1, rfl, cap, rfl⟩
      unfold Builtin.«set.__init__» noKeywords Builtin.Frozenset.updateFrom
      generalize isIter : pyIter = iter_
      wp_walk
      subst isIter
      refine wpAny_pyIter_list isL1 (wpAny_bind (wpAny_runValue ?_))
      have inL : l < s.heap.objs.size := Heap.lt_size atL
      have size1 : (s.heap.push (newSet w)).objs.size = s.heap.objs.size + 1 := Heap.size_push ..
      have far : l ≠ (s.heap.push (newSet w)).objs.size := by
        rw [size1]
        exact Nat.ne_of_lt (Nat.lt_succ_of_lt inL)
      have off : s.heap.objs.size ∉ [(s.heap.push (newSet w)).objs.size, l] := fun z => by
        rw [size1] at z
        rcases List.mem_cons.mp z with y | y
        · exact absurd y (Nat.ne_of_lt (Nat.lt_succ_self _))
        · exact absurd (List.mem_singleton.mp y) (Nat.ne_of_gt inL)
      have calm3 : A.in1.in1.in1.handled = none := calm
      have vals : ∀ (i : Nat) (v : Value), cells[i]? = some v → ∃ x tk, xs[i]? = some x ∧ v = Value.int x tk := fun i v hv => by
        have q : cells.toList[i]? = some v := by rw [Array.getElem?_toList]; exact hv
        have il : i < xs.length := by
          have z := (List.getElem?_eq_some_iff.mp q).1
          rw [Array.length_toList, size] at z
          exact z
        obtain ⟨tk, e⟩ := IntsAre.int_at txts i v q
        refine ⟨xs.getD i 0, tk, ?_, e⟩
        rw [List.getD_eq_getElem?_getD, List.getElem?_eq_getElem il]
        rfl
      refine int_loop ((Walks.list calm3 _ l far cells).toS) off xs size few vals (cells.size - 0) 0 _ (by omega) (Nat.zero_le _) ⟨⟨_, Heap.get?_push_size _ rfl, rfl, rfl⟩, isL1.push _⟩ (iset_fresh (Heap.get?_push_of_some _ atS)) fun s3 mv T => ?_
      obtain ⟨h3, g3, d3, tk3, os3⟩ := s3
      have q1 : g3 = s.gens := mv.gens
      have q2 : d3 = s.drawn := mv.drawn
      have q3 : os3 = s.os := mv.os
      subst q1
      subst q2
      subst q3
      refine wpAny_pure (wpAny_pure ⟨rfl, h3, tk3, rfl, T, fun b o e => ?_⟩)
      have lb := Heap.lt_size e
      refine mv.heap b o (fun z => ?_) (Heap.get?_push_of_some _ (Heap.get?_push_of_some _ e))
      rcases List.mem_cons.mp z with y | y
      · exact absurd y (Nat.ne_of_lt lb)
      · have y2 := List.mem_singleton.mp y
        rw [size1] at y2
        exact absurd y2 (Nat.ne_of_lt (Nat.lt_succ_of_lt lb))
    · match r2, done2 with
      | .error _, bad => exact bad
      | .ok .next, bad => exact bad.elim
      | .ok .brk, bad => exact bad.elim
      | .ok .cont, bad => exact bad.elim
      | .ok (.ret _), good =>
        obtain ⟨e1, h', tk, e2, T, kept⟩ := good
        subst e1
        subst e2
        repeat (any_goals (first | assumption | wp_step))
        exact next h' tk T kept
end
theorem iset_few {h : Heap} {a : Addr} {xs : List Int} {n : Nat} (r : SetR w h a (fun k => decide (k ∈ xs)) n) {B : Nat} (hB : ∀ x ∈ xs, 0 ≤ x ∧ x < (B : Int)) : n ≤ B := by
  obtain ⟨o, es, ep, t, _, _, _, _, nd, hm, _, _, hn, _⟩ := r
  have := M25.nd_few nd fun x hx => hB x (of_decide_eq_true ((hm x).mpr hx))
  rw [List.length_map, Array.length_toList, hn] at this
  exact this
section
variable {X : Cx}
def rSetI (K : PySem.W.Frag) (w : World) : List V → Hp → VK → Prop := fun vs H Q => ∃ (l : Addr) (xs : List Int), vs = [.ref l] ∧ SqL K H l (xs.map V.int) ∧ xs.length < 1000 ∧ ∀ p n, (∀ B : Nat, (∀ x ∈ xs, 0 ≤ x ∧ x < (B : Int)) → n ≤ B) → H p = none → Q (.ref p) (upd H p (SetO w p (fun k => decide (k ∈ xs)) n))
theorem cr_setI (calm : X.calm = true) : CallR X (.type "set") (rSetI X.K X.w) := by
  intro pins s σ H vs us Q I rel want
  obtain ⟨l, xs, one, isL, few, q⟩ := want
  subst one
  obtain ⟨u, isU, ru⟩ := vals1 rel
  subst isU
  cases (show u = Value.ref l from ru)
  obtain ⟨its, rv, at_, _⟩ := I.list isL
  have txts : IntsAre its.toArray.toList xs := rv.ints
  refine call_setI (I.ok.hd calm) at_.isList txts few fun h' tk T kept => ?_
  obtain ⟨n, ln, T⟩ := T
  exact ⟨.ref s.heap.objs.size, _, I.laid (t' := tk) kept (Nat.le_refl s.heap.objs.size) (setO_new T), rfl, q _ n (fun B hB => iset_few T hB) (I.hok.fresh (Nat.le_refl _))⟩
end
end Dw
end
section
/-! sorted(a list of tuples of numbers), of any length: as mergeSort lays it by the order of lists -/
namespace Dw
open PySem PySem.Spec PyProof.Rows L2 Evl PySem.W
def leT (p q : Addr × List Int) : Bool := decide (p.2 ≤ q.2)
theorem dataLe_tups {β : Type} (x : β → List Int) : dataLe false (fun b => .tuple ((x b).map .int)) = fun p q => decide (x p ≤ x q) := by
  funext p q
  have e : dataLt (.tuple ((x q).map .int)) (.tuple ((x p).map .int)) = decide (x q < x p) := by
    rw [dataLt_tuple]
    exact dataLt_ints _ _
  show (!dataLt (.tuple ((x q).map .int)) (.tuple ((x p).map .int))) = _
  rw [e]
  by_cases h : x q < x p
  · have h' : ¬ x p ≤ x q := fun z => List.not_lt.mpr z h
    simp [h, h']
  · have h' : x p ≤ x q := List.not_lt.mp h
    simp [h, h']
/-- sorted(xs), xs a list of tuples of numbers, none of them empty -/
def rSortN (K : PySem.W.Frag) : List V → Hp → VK → Prop := fun vs H Q => ∃ (a : Addr) (ps : List (Addr × List Int)), vs = [.ref a] ∧ SqL K H a (ps.map fun p => V.ref p.1) ∧ (∀ p ∈ ps, SqT K H p.1 (p.2.map V.int)) ∧ (∀ p ∈ ps, p.2 ≠ []) ∧
  ∀ p, H p = none → Q (.ref p) (upd H p (.lst ((ps.mergeSort leT).map fun p => V.ref p.1)))
theorem each_vals {X : Cx} {pins : List (Addr × Obj)} {σ : L2.St} {H : Hp} {s : Shared} (I : Inv X pins σ H s) : ∀ {ps : List (Addr × List Int)} {vs : List Value}, Vals (ps.map fun p => V.ref p.1) vs → (∀ p ∈ ps, SqT X.K H p.1 (p.2.map V.int)) →
    EachIs (fun v (p : Addr × List Int) => v = Value.ref p.1) vs ps ∧ EachIs (fun v (p : Addr × List Int) => ∃ as, Reads s.heap v (.tuple (p.2.map .int)) as) vs ps
  | [], _, .nil, _ => ⟨.nil, .nil⟩
  | p :: ps, _, .cons r rs, h => by
    obtain ⟨a, b⟩ := each_vals I (ps := ps) rs fun q hq => h q (List.mem_cons_of_mem _ hq)
    have hp := h p (List.mem_cons_self ..)
    have dp : Dp X.K H (.ref p.1) (.tuple (p.2.map .int)) := .tup hp (by
      have : ∀ l : List Int, DpAll X.K H (l.map V.int) (l.map PyData.int) := fun l => by
        induction l with
        | nil => exact .nil
        | cons k l ih => exact .cons (.int k) ih
      exact this p.2)
    exact ⟨.cons r a, .cons (Dp.reads I _ _ _ dp r) b⟩
theorem each_back : ∀ {ps : List (Addr × List Int)} {vs : List Value}, EachIs (fun v (p : Addr × List Int) => v = Value.ref p.1) vs ps → Vals (ps.map fun p => V.ref p.1) vs
  | [], _, .nil => .nil
  | p :: ps, _, .cons r rs => .cons r (each_back rs)
theorem cr_sortN {X : Cx} {k : Nat} (hr : Room k X.A) : CallR X (.builtin "sorted") (rSortN X.K) := by
  intro pins s σ H vs us Q I r h
  obtain ⟨a, ps, rfl, hs, ht, hne, q⟩ := h
  obtain ⟨its, rv, hl, hz⟩ := I.list hs
  rw [Vals.ref1 r]
  obtain ⟨ea, eb⟩ := each_vals I rv ht
  have hu := hr.units
  refine sorted_data (enc := fun p : Addr × List Int => .tuple (p.2.map .int)) (bs := ps) hl.isList ea eb (AllAlike.of fun b b' => by
      show alike (.tuple (b.2.map .int)) (.tuple (b'.2.map .int)) = true
      rw [alike]
      exact alike_ints _ _) (.inl fun d hd => ?_) (by rw [List.length_map] at hz; exact hz) (fun b _ => ?_) fun out lo eo => ?_
  · obtain ⟨b, hb, rfl⟩ := List.mem_map.mp hd
    have := hne b hb
    cases e : b.2 with
    | nil => exact absurd e this
    | cons x r =>
      exact ⟨_, _, rfl⟩
  · show X.A.units + 2 + PyData.depth (.tuple (b.2.map .int)) < cLine
    rw [PyData.depth, depth_ints]
    omega
  · obtain ⟨ep, he'⟩ := PyProof.Rows.sortedAll_at s.heap its (List.toArray out)
    have em : ps.mergeSort (dataLe false fun p : Addr × List Int => .tuple (p.2.map .int)) = ps.mergeSort leT := by
      rw [dataLe_tups (fun p : Addr × List Int => p.2)]
      rfl
    rw [em] at eo
    have hlen : ((ps.mergeSort leT).map fun p => V.ref p.1).length ≤ sizeLine := by
      rw [List.length_map, List.length_mergeSort]
      rw [List.length_map] at hz
      exact hz
    exact ⟨.ref _, upd H (s.heap.objs.size + 1) (.lst ((ps.mergeSort leT).map fun p => V.ref p.1)), I.laid (t' := s.toks) (fun _ _ => PyProof.Rows.sortedAll_old) (Nat.le_succ _) ⟨hlen, out, ep, each_back eo, he'⟩, rfl, q _ (I.hok.fresh (Nat.le_succ _))⟩
end Dw
end
section
/-! readings of sorted(..) and set(..) over new lists -/
namespace Dw
open PySem PySem.Spec PyProof.Rows L2 Evl M25
theorem nats_ia {K : PySem.W.Frag} {H : Hp} {a : Addr} {ns : List Nat} : SqT K H a (ns.map vi) ↔ SqT K H a ((ia ns).map V.int) := by
  unfold ia
  rw [List.map_map]
  exact Iff.rfl
theorem paired_refs {R : V → List Nat → Hp → Prop} {H : Hp} (hr : ∀ v o, R v o H → ∃ a, v = .ref a) : ∀ {vs : List V} {os : List (List Nat)}, Paired (fun v o => R v o H) vs os → ∃ qs : List (Addr × List Nat), vs = qs.map (fun q => V.ref q.1) ∧ os = qs.map (·.2) ∧ ∀ q ∈ qs, R (.ref q.1) q.2 H
  | _, _, .nil => ⟨[], rfl, rfl, fun _ h => nomatch h⟩
  | _, _, .cons (a := v) (b := b) h r => by
    obtain ⟨a, rfl⟩ := hr _ _ h
    obtain ⟨qs, e1, e2, e3⟩ := paired_refs hr r
    refine ⟨(a, b) :: qs, by rw [e1]; rfl, by rw [e2]; rfl, fun q hq => ?_⟩
    rcases List.mem_cons.mp hq with rfl | z
    · exact h
    · exact e3 q z
theorem refs_paired {R : V → List Nat → Hp → Prop} {H : Hp} : ∀ {qs : List (Addr × List Nat)}, (∀ q ∈ qs, R (.ref q.1) q.2 H) → Paired (fun v o => R v o H) (qs.map fun q => V.ref q.1) (qs.map (·.2))
  | [], _ => .nil
  | q :: qs, h => .cons (h q (List.mem_cons_self ..)) (refs_paired fun r hr => h r (List.mem_cons_of_mem _ hr))
section
variable {K : PySem.W.Frag} {σ : L2.St} {H H' : Hp} {te : TE} {w : World}
theorem sortN_core {R : V → List Nat → Hp → Prop} (rn : ∀ v o H, R v o H → Nats K H v o) (rx : ∀ v o H H', Ex H H' → R v o H → R v o H') {os : List (List Nat)} {ws : List V} {p : Addr} {H2 : Hp} {Q : VK} (hp : H2 p = some (.lst ws)) (pw : Paired (fun v o => R v o H2) ws os) (ne : ∀ o ∈ os, o ≠ [])
    (q : ∀ l ws' H3, H2 l = none → Ex H2 H3 → H3 l = some (.lst ws') → Paired (fun v o => R v o H3) ws' (srtO os) → Q (.ref l) H3) : rSortN K [.ref p] H2 Q := by
  obtain ⟨qs, e1, e3, e4⟩ := paired_refs (fun v o r => let ⟨a, e, _⟩ := rn v o H2 r; ⟨a, e⟩) pw
  subst e1 e3
  have e5 : ((qs.map fun q => (q.1, ia q.2)).mergeSort leT).map (fun p => V.ref p.1) = (qs.mergeSort fun a b => leO a.2 b.2).map fun q => V.ref q.1 := by
    rw [← List.map_mergeSort (r := fun a b : Addr × List Nat => leO a.2 b.2) (s := leT) (f := fun q : Addr × List Nat => (q.1, ia q.2)) (fun a _ b _ => rfl), List.map_map]
    rfl
  have e6 : (qs.mergeSort fun a b => leO a.2 b.2).map (·.2) = srtO (qs.map (·.2)) := by
    unfold srtO
    rw [List.map_mergeSort (r := fun a b : Addr × List Nat => leO a.2 b.2) (s := leO) (f := fun q : Addr × List Nat => q.2) (fun a _ b _ => rfl)]
  refine ⟨p, qs.map fun q => (q.1, ia q.2), rfl, by rw [List.map_map]; exact sq_of hp, fun z hz => ?_, fun z hz => ?_, fun l nl => ?_⟩
  · obtain ⟨q', hq', rfl⟩ := List.mem_map.mp hz
    obtain ⟨a', ea, sa⟩ := rn _ _ _ (e4 q' hq')
    cases ea
    exact nats_ia.mp sa
  · obtain ⟨q', hq', rfl⟩ := List.mem_map.mp hz
    have := ne q'.2 (List.mem_map.mpr ⟨q', hq', rfl⟩)
    intro z2
    have l0 : (ia q'.2).length = 0 := by
      rw [show ia q'.2 = [] from z2]
      rfl
    unfold ia at l0
    rw [List.length_map] at l0
    exact this (List.eq_nil_of_length_eq_zero l0)
  · rw [e5]
    refine q l _ _ nl (Ex.new nl) upd_same ?_
    rw [← e6]
    exact refs_paired fun q' hq' => rx _ _ _ _ (Ex.new nl) (e4 q' ((List.mergeSort_perm _ _).mem_iff.mp hq'))
/-- sorted(a new list of tuples) -/
theorem elp_sortN {R : V → List Nat → Hp → Prop} (rn : ∀ v o H, R v o H → Nats K H v o) (rx : ∀ v o H H', Ex H H' → R v o H → R v o H') {os : List (List Nat)} (h : EvLP te σ H (fun ws H' => Paired (fun v o => R v o H') ws os)) (ne : ∀ o ∈ os, o ≠ []) : EvLP (tCB (rSortN K) (tCons te tNil)) σ H (fun ws H' => Paired (fun v o => R v o H') ws (srtO os)) := fun H1 e Q q =>
  h H1 e _ fun p ws H2 np e2 hp pw => sortN_core rn rx hp pw ne fun l ws' H3 nl e3 hl pl => q l ws' H3 (fresh_back e2 nl) (e2.trans e3) hl pl
/-- sorted(set(a new list of numbers)) -/
theorem el_sortSet {ns ms : List Nat} (h : EvL te σ H (ns.map vi)) (few : ns.length < 1000) (B : Nat) (b60 : B < 64) (low : ∀ k ∈ ns, k < B) (up : ms.Pairwise (· < ·)) (mem : ∀ k, k ∈ ms ↔ k ∈ ns) : EvL (tCB (rSortedSet w) (tCons (tCB (rSetI K w) (tCons te tNil)) tNil)) σ H (ms.map vi) := fun H1 e Q q =>
  h H1 e _ fun p H2 np e2 hp => ⟨p, ia ns, rfl, by
    unfold ia
    rw [List.map_map]
    exact sq_of hp, by unfold ia; rw [List.length_map]; exact few, fun s m hm nS => ⟨s, _, m, rfl, upd_same, Nat.lt_of_le_of_lt (hm B fun x hx => by
      obtain ⟨k, hk, rfl⟩ := List.mem_map.mp hx
      have := low k hk
      omega) b60, fun rs l rup rmem _ nl => by
    have er : rs = ia ms := up_one rup (ia_up up) fun x => by
      rw [rmem x]
      constructor
      · intro z
        obtain ⟨k, hk, rfl⟩ := List.mem_map.mp (of_decide_eq_true z)
        exact List.mem_map.mpr ⟨k, (mem k).mpr hk, rfl⟩
      · intro z
        obtain ⟨k, hk, rfl⟩ := List.mem_map.mp z
        exact decide_eq_true (List.mem_map.mpr ⟨k, (mem k).mp hk, rfl⟩)
    have e3 : Ex H2 (upd H2 s (SetO w s (fun k => decide (k ∈ ia ns)) m)) := Ex.new nS
    refine q l _ (fresh_back (e2.trans e3) nl) ((e2.trans e3).trans (Ex.new nl)) ?_
    rw [upd_same, er]
    unfold ia
    rw [List.map_map]
    rfl⟩⟩
/-- len(..) by what holds -/
theorem ev_lenP {P : V → Hp → Prop} {L : Nat} (h : EvP te σ H P) (k : ∀ v H1, P v H1 → ∃ a xs, v = .ref a ∧ SqL K H1 a xs ∧ xs.length = L) : Ev (tCB (rLenS K) (tCons te tNil)) σ H (vi L) := fun H1 e Q q =>
  h H1 e _ fun v H2 e2 hv => by
    obtain ⟨a, xs, rfl, s, l⟩ := k v H2 hv
    refine ⟨a, xs, rfl, .inl s, ?_⟩
    rw [l]
    exact q H2 e2
theorem inV_vi (k : Nat) : ∀ l : List Nat, inV (vi k) (l.map vi) = decide (k ∈ l)
  | [] => rfl
  | x :: l => by
    have ih := inV_vi k l
    unfold inV at ih ⊢
    rw [List.map_cons, List.any_cons, ih]
    by_cases h : k = x
    · subst h
      have : eqV (vi k) (vi k) = true := by simp [eqV]
      rw [this, decide_eq_true (List.mem_cons_self ..)]
      rfl
    · have : eqV (vi x) (vi k) = false := by
        simp [eqV]
        omega
      rw [this, Bool.false_or]
      exact decide_eq_decide.mpr ⟨fun z => List.mem_cons_of_mem _ z, fun z => (List.mem_cons.mp z).resolve_left h⟩
theorem flat_vi (l : List Nat) : (l.map vi).all flatV = true := by
  rw [List.all_eq_true]
  intro x hx
  obtain ⟨k, _, rfl⟩ := List.mem_map.mp hx
  rfl
end
end Dw
namespace Dw
open PySem PySem.Spec PyProof.Rows L2 Evl M25
section
variable {K : PySem.W.Frag} {σ : L2.St} {H H' : Hp} {te ta tb : TE} {w : World}
def dL (ns : List Nat) : PyData := .list (ns.map fun n => .int ((n : Nat) : Int))
end
end Dw
end
section
/-! sorted(a list of things that read as data), of any length -/
namespace Dw
open PySem PySem.Spec PyProof.Rows L2 Evl PySem.W M25
end Dw
end
section
/-! repr of any data without dicts -/
namespace Dw
open PySem PySem.Spec PyProof.Rows L2 Evl
end Dw
end
section
/-! min and sum of a tuple of numbers -/
namespace Dw
open PySem PySem.Spec PyProof.Rows PyProof.V L2 Evl PySem.W
section
variable {K : PySem.W.Frag} {σ : L2.St} {H : Hp} {te : TE}
end
end Dw
end
section
/-! closed lists of numbers: the mathematics -/
namespace CL
open M20 M25
/-- the place of a row -/
def plc (n : Nat) (ns : List Nat) : Nat := ns.foldl (fun acc k => acc * n + k) 0
theorem plc_low {n : Nat} : ∀ {ns : List Nat}, (∀ k ∈ ns, k < n) → ns.length ≤ 2 → plc n ns < n ^ ns.length
  | [], _, _ => by
    show 0 < n ^ 0
    rw [Nat.pow_zero]
    decide
  | [a], h, _ => by
    have := h a (List.mem_singleton.mpr rfl)
    show 0 * n + a < n ^ 1
    rw [Nat.pow_one, Nat.zero_mul, Nat.zero_add]
    exact this
  | [a, b], h, _ => by
    have ha := h a (List.mem_cons_self ..)
    have hb := h b (List.mem_cons_of_mem _ (List.mem_singleton.mpr rfl))
    show (0 * n + a) * n + b < n ^ 2
    rw [Nat.zero_mul, Nat.zero_add, Nat.pow_two]
    have : (a + 1) * n ≤ n * n := Nat.mul_le_mul_right n ha
    rw [Nat.add_mul, Nat.one_mul] at this
    omega
  | _ :: _ :: _ :: _, _, h => absurd h (by simp)
theorem plc_take {n : Nat} {ns : List Nat} {i k : Nat} (h : ns[i]? = some k) : plc n (ns.take (i + 1)) = plc n (ns.take i) * n + k := by
  unfold plc
  rw [List.take_add_one, h, List.foldl_append]
  rfl
theorem rows_plc {n p : Nat} (p2 : p ≤ 2) (n1 : 0 < n) {i : Nat} (h : i < n ^ p) : ∃ r, (rows n p)[i]? = some r ∧ plc n r = i := by
  match p, p2, h with
  | 0, _, h =>
    rw [Nat.pow_zero] at h
    have : i = 0 := by omega
    subst this
    exact ⟨[], rfl, rfl⟩
  | 1, _, h =>
    rw [Nat.pow_one] at h
    refine ⟨[i], ?_, by show 0 * n + i = i; omega⟩
    rw [rows_1, List.getElem?_map, List.getElem?_range h]
    rfl
  | 2, _, h =>
    rw [Nat.pow_two] at h
    refine ⟨[i / n, i % n], ?_, ?_⟩
    · rw [rows_2 n1, List.getElem?_map, List.getElem?_range h]
      rfl
    · show (0 * n + i / n) * n + i % n = i
      rw [Nat.zero_mul, Nat.zero_add, Nat.mul_comm]
      exact Nat.div_add_mod i n
section
variable {α : Type}
/-- all arguments are among these -/
def among (r S : List Nat) : Bool := r.all fun a => decide (a ∈ S)
/-- a cell leads out of a list -/
def outs (S : List Nat) (c : α × List Nat × Nat) : Bool := !decide (c.2.2 ∈ S) && among c.2.1 S
def closed (cs : List (α × List Nat × Nat)) (S : List Nat) : Bool := cs.all fun c => !outs S c
end
/-! ### rising lists -/
def sub : Nat → List (List Nat)
  | 0 => [[]]
  | k + 1 => sub k ++ (sub k).map (· ++ [k])
def Up (n : Nat) (x : List Nat) : Prop := x.Pairwise (· < ·) ∧ ∀ k ∈ x, k < n
theorem Up.nodup {n : Nat} {x : List Nat} (h : Up n x) : x.Nodup := h.1.imp fun h => Nat.ne_of_lt h
/-! ### building -/
section
variable {α : Type}
/-- steps: numbers given, then worths of cells of what is there -/
inductive Built (cs : List (α × List Nat × Nat)) (ms : List Nat) : List (Nat × Option (α × List Nat)) → Prop where
  | base : Built cs ms (ms.map fun k => (k, none))
  | step {st : List (Nat × Option (α × List Nat))} {c : α × List Nat × Nat} : Built cs ms st → c ∈ cs → c.2.2 ∉ st.map (·.1) → (∀ a ∈ c.2.1, a ∈ st.map (·.1)) → Built cs ms (st ++ [(c.2.2, some (c.1, c.2.1))])
theorem Built.nodup {cs : List (α × List Nat × Nat)} {ms : List Nat} {st : List (Nat × Option (α × List Nat))} (nd : ms.Nodup) (h : Built cs ms st) : (st.map (·.1)).Nodup := by
  induction h with
  | base =>
    rw [List.map_map]
    show (ms.map fun k => k).Nodup
    rw [List.map_id']
    exact nd
  | step b hc hn ha ih =>
    rw [List.map_append, List.nodup_append]
    exact ⟨ih, List.pairwise_singleton _ _, fun x hx y hy e => hn (by
      rw [List.mem_singleton.mp hy] at e
      dsimp only at e
      rw [← e]
      exact hx)⟩
theorem Built.low {cs : List (α × List Nat × Nat)} {ms : List Nat} {st : List (Nat × Option (α × List Nat))} {n : Nat} (l1 : ∀ k ∈ ms, k < n) (l2 : ∀ c ∈ cs, c.2.2 < n) (h : Built cs ms st) : ∀ k ∈ st.map (·.1), k < n := by
  induction h with
  | base =>
    intro k hk
    obtain ⟨x, hx, rfl⟩ := List.mem_map.mp hk
    obtain ⟨y, hy, rfl⟩ := List.mem_map.mp hx
    exact l1 _ hy
  | step b hc hn ha ih =>
    intro k hk
    rw [List.map_append] at hk
    rcases List.mem_append.mp hk with z | z
    · exact ih k z
    · rw [List.mem_singleton.mp z]
      exact l2 _ hc
end
end CL
end
section
/-! lists of lists of numbers, each at its own new place -/
namespace Dw
open PySem PySem.Spec PyProof.Rows L2 Evl PySem.W M25
/-- a list of numbers at its place -/
def LN (H : Hp) (v : V) (ns : List Nat) : Prop := ∃ a, v = .ref a ∧ H a = some (.lst (ns.map vi))
theorem LN.ex {H H' : Hp} {v : V} {ns : List Nat} (e : Ex H H') (h : LN H v ns) : LN H' v ns := let ⟨a, q, s⟩ := h; ⟨a, q, e _ _ s⟩
theorem dp_ln {K : PySem.W.Frag} {H : Hp} {b : Addr} {ns : List Nat} (h : H b = some (.lst (ns.map vi))) : Dp K H (.ref b) (dL ns) := .lst (sq_of h) (dps_nats ns)
/-- a new list of new lists, all at places of their own, none there in H0 -/
structure LLs (H0 H : Hp) (a : Addr) (as : List Addr) (L : List (List Nat)) : Prop where
  at_ : H a = some (.lst (as.map V.ref))
  new : H0 a = none
  each : Paired (fun b ns => H b = some (.lst (ns.map vi)) ∧ H0 b = none) as L
  nd : as.Nodup
  ne : a ∉ as
theorem LLs.ex {H0 H H' : Hp} {a : Addr} {as : List Addr} {L : List (List Nat)} (e : Ex H H') (h : LLs H0 H a as L) : LLs H0 H' a as L := ⟨e _ _ h.at_, h.new, paired_imp (fun _ _ z => ⟨e _ _ z.1, z.2⟩) h.each, h.nd, h.ne⟩
theorem LLs.low {H0 H1 H : Hp} {a : Addr} {as : List Addr} {L : List (List Nat)} (e : Ex H0 H1) (h : LLs H1 H a as L) : LLs H0 H a as L := ⟨h.at_, fresh_back e h.new, paired_imp (fun _ _ z => ⟨z.1, fresh_back e z.2⟩) h.each, h.nd, h.ne⟩
theorem LLs.len {H0 H : Hp} {a : Addr} {as : List Addr} {L : List (List Nat)} (h : LLs H0 H a as L) : as.length = L.length := paired_len h.each
theorem LLs.some {H0 H : Hp} {a : Addr} {as : List Addr} {L : List (List Nat)} (h : LLs H0 H a as L) {b : Addr} (hb : b ∈ as) : ∃ ns, ns ∈ L ∧ H b = some (.lst (ns.map vi)) ∧ H0 b = none := by
  obtain ⟨i, hi⟩ := List.mem_iff_getElem?.mp hb
  obtain ⟨ns, e, q⟩ := paired_at h.each hi
  exact ⟨ns, List.mem_iff_getElem?.mpr ⟨i, e⟩, q⟩
theorem dps_lls {K : PySem.W.Frag} {H : Hp} : ∀ {as : List Addr} {L : List (List Nat)}, Paired (fun b ns => H b = some (.lst (ns.map vi))) as L → DpAll K H (as.map V.ref) (L.map dL)
  | _, _, .nil => .nil
  | _, _, .cons a b => .cons (dp_ln a) (dps_lls b)
theorem LLs.dp {K : PySem.W.Frag} {H0 H : Hp} {a : Addr} {as : List Addr} {L : List (List Nat)} (h : LLs H0 H a as L) : Dp K H (.ref a) (.list (L.map dL)) := .lst (sq_of h.at_) (dps_lls (paired_imp (fun _ _ z => z.1) h.each))
section
variable {K : PySem.W.Frag} {σ : L2.St} {H : Hp} {te tl : TE} {tt : TT} {g : TG} {vs : List Nat} {Q : VK}
end
section
variable {K : PySem.W.Frag} {σ : L2.St} {H : Hp} {te tl : TE} {tt : TT} {g : TG} {vs : List Nat} {Q : VK}
end
section
variable {K : PySem.W.Frag} {σ : L2.St} {H : Hp} {D : Ends} {tu tz : TS} {g : TG}
/-- a loop over what is walked, as tFor has it behind its source -/
def Loops (J : It) (g : TG) (tu : TS) (D : Ends) (σ : L2.St) (H1 : Hp) : Prop := ∃ W : Nat → Nat → L2.St → Hp → Prop, (∃ m, W 0 m σ H1) ∧ ∀ i m σ H, W i m σ H →
  (J.stop i H ∧ D.nx σ H) ∨ (J.go i H ∧ ∃ N : L2.St → Hp → Prop, (∀ σ' H', N σ' H' → ∃ m', m' < m ∧ W (i + 1) m' σ' H') ∧ ∀ x H', J.yld i H x H' → g x σ H' fun σ2 H2 => tu { D with nx := N, ct := N, bk := D.nx } σ2 H2)
theorem s_forLs {tl : TE} (h : tl σ H fun x H1 => ∃ a, x = .ref a ∧ (∃ xs, SqL K H1 a xs) ∧ Loops (Itl K a) g tu D σ H1) : tFor (iList K tl) g tu D σ H := h
theorem loops_list {a : Addr} {xs : List V} (Pv : Nat → L2.St → Hp → Prop) (h0 : Pv 0 σ H) (hk : ∀ i σ' H', i ≤ xs.length → Pv i σ' H' → SqL K H' a xs)
    (hs : ∀ i x σ' H', xs[i]? = some x → Pv i σ' H' → g x σ' H' fun σ2 H2 => tu { D with nx := Pv (i + 1), ct := Pv (i + 1), bk := D.nx } σ2 H2) (hd : ∀ σ' H', Pv xs.length σ' H' → D.nx σ' H') : Loops (Itl K a) g tu D σ H :=
  for_it (walk_list (K := K) (a := a) (xs := xs)) Pv h0 hk (fun i v σ' H2 H3 hi p y => by
    obtain ⟨rfl, e1⟩ := y
    exact hs i v σ' _ e1 p) hd
end
section
variable {K : PySem.W.Frag} {σ : L2.St} {H : Hp} {D : Ends} {tu tz : TS} {g : TG}
end
section
variable {K : PySem.W.Frag} {σ : L2.St} {H : Hp} {D : Ends} {ta te : TE} {tt : TT} {tz : TS} {P : V → Hp → Prop}
theorem q_appP' {l : Addr} {xs : List V} (hl : H l = some (.lst xs)) (ha : Ev ta σ H (.ref l)) (h : EvP te σ H P) (hz : xs.length < 100000) (k : ∀ v H1, Ex H H1 → P v H1 → tz D σ (upd H1 l (.lst (xs ++ [v])))) : tSeq (tDrop (tBM K "list" rAppend ta (tCons te tNil))) tz D σ H :=
  s_appP (D := { D with nx := tz D }) hl ha h hz k
end
section
variable {σ : L2.St} {H : Hp}
end
section
variable {K : PySem.W.Frag} {σ : L2.St} {H : Hp} {te : TE} {w : World}
end
section
variable {K : PySem.W.Frag} {σ : L2.St} {H : Hp} {ta tb te : TE}
end
section
variable {K : PySem.W.Frag} {σ : L2.St} {H : Hp} {ta tb te : TE} {Q : VK}
end
section
variable {K : PySem.W.Frag} {σ : L2.St} {H : Hp} {D : Ends} {tu tz : TS} {g : TG}
end
theorem range_getD {β : Type} (d : β) (r : List β) : (List.range r.length).map (fun i => r.getD i d) = r := by
  apply List.ext_getElem?
  intro i
  by_cases hi : i < r.length
  · rw [List.getElem?_map, List.getElem?_range hi, List.getElem?_eq_getElem hi]
    show some (r.getD i d) = _
    rw [List.getD_eq_getElem?_getD, List.getElem?_eq_getElem hi]
    rfl
  · rw [List.getElem?_eq_none_iff.mpr (by simp; omega), List.getElem?_eq_none_iff.mpr (by omega)]
section
variable {K : PySem.W.Frag} {σ : L2.St} {H : Hp} {ta tb te : TE}
end
section
variable {K : PySem.W.Frag} {σ : L2.St} {H : Hp}
/-- x != y, both the same data -/
theorem ev_neSame {ta tb : TE} {P R : V → Hp → Prop} {d : PyData} {k W : Nat} (ha : EvP ta σ H P) (hb : EvP tb σ H R) (st : ∀ v H1 H2, Ex H1 H2 → P v H1 → P v H2) (dp : ∀ v H1, P v H1 → Dp K H1 v d) (dr : ∀ v H1, R v H1 → Dp K H1 v d) (g : Gd k W d) (hk : k ≤ 60) : Ev (tOp (rNeD K) ta tb) σ H (.bl false) := fun H1 e Q q =>
  ha H1 e _ fun v H2 e2 hv => hb H2 (e.trans e2) _ fun u H3 e3 hu => ⟨d, d, dp _ _ (st _ _ _ e3 hv), dr _ _ hu, g.shaped hk, g.shaped hk, by
    rw [SeqAt.eqv_refl _ g.lay]
    exact q H3 (e2.trans e3)⟩
end
theorem cut_last {xs : List V} (h : 1 ≤ xs.length) : cutV xs none (some (-1)) = xs.dropLast ∧ HT.sIx xs.length xs.length (some (-1)) = xs.length - 1 := by
  have e : HT.sIx xs.length xs.length (some (-1)) = xs.length - 1 := by
    have e1 : HT.sIx xs.length xs.length (some (-1)) = ((-1 : Int) + (xs.length : Int)).toNat := by
      unfold HT.sIx
      exact if_pos (by decide)
    rw [e1]
    omega
  refine ⟨?_, e⟩
  unfold cutV
  rw [e, HT.sIx_none, Nat.sub_zero, List.drop_zero, List.dropLast_eq_take]
end Dw
end
section
/-! max(t, default=k); new lists by comprehensions over a range, of two fors -/
namespace Dw
open PySem PySem.Spec PyProof.Rows L2 Evl PySem.W M25
section
variable {K : PySem.W.Frag} {σ : L2.St} {H : Hp} {te tl : TE} {tt : TT} {g : TG} {vs vs1 : List Nat} {Q : VK}
end
section
variable {σ : L2.St} {H : Hp} {D : Ends} {tu tz : TS} {g : TG}
end
end Dw
end
section
/-! leads: the mathematics -/
namespace LD
open M20 M25 CL
/-! ### by levels -/
section
variable {α : Type}
end
end LD
end
section
/-! rows in their order, and lists sorted in one way only -/
namespace LD
open M20 M25 CL
end LD
end
section
/-! sorted(..) told exactly; max((-1,) + row) -/
namespace Dw
open PySem PySem.Spec PyProof.Rows L2 Evl RZ M20 M25 CL PySem.W LD
section
variable {K : PySem.W.Frag} {σ : L2.St} {H : Hp} {te tl : TE} {tt : TT} {g : TG} {vs vs1 : List Nat} {Q : VK}
end
end Dw
end
section
/-! range(n) as a thing; not in range(n) -/
namespace Dw
open PySem PySem.Spec PyProof.Rows L2 Evl RZ M20 M25 CL PySem.W LD
section
variable {K : PySem.W.Frag} {σ : L2.St} {H : Hp} {ta tb : TE}
end
end Dw
end
section
/-! copies: data whose lists are new, told whatever becomes of the lists that stood -/
namespace Dw
open PySem PySem.Spec PyProof.Rows L2 Evl RZ M20 M25 CL PySem.W LD
def Keep (H0 H H' : Hp) : Prop := ∀ b o, (H0 b = none ∨ ∀ ys, o ≠ .lst ys) → H b = some o → H' b = some o
def Cz (K : PySem.W.Frag) (H H' : Hp) (v : V) (d : PyData) : Prop := ∀ H'', Keep H H' H'' → Dp K H'' v d
def CzA (K : PySem.W.Frag) (H H' : Hp) (vs : List V) (ds : List PyData) : Prop := ∀ H'', Keep H H' H'' → DpAll K H'' vs ds
theorem Cz.here {K : PySem.W.Frag} {H H' : Hp} {v : V} {d : PyData} (h : Cz K H H' v d) : Dp K H' v d := h H' fun _ _ _ z => z
theorem Cz.ex {K : PySem.W.Frag} {H H1 H' : Hp} {v : V} {d : PyData} (e : Ex H1 H') (h : Cz K H H1 v d) : Cz K H H' v d := fun H'' kp => h H'' fun b o c hb => kp b o c (e _ _ hb)
theorem Cz.low {K : PySem.W.Frag} {H H1 H' : Hp} {v : V} {d : PyData} (e : Ex H H1) (h : Cz K H1 H' v d) : Cz K H H' v d := fun H'' kp => h H'' fun b o c hb => kp b o (c.imp (fun z => fresh_back e z) id) hb
theorem Cz.lst {K : PySem.W.Frag} {H H' : Hp} {a : Addr} {vs : List V} {ds : List PyData} (na : H a = none) (ha : H' a = some (.lst vs)) (h : CzA K H H' vs ds) : Cz K H H' (.ref a) (.list ds) := fun H'' kp => .lst (sq_of (kp _ _ (.inl na) ha)) (h H'' kp)
section
variable {K : PySem.W.Frag} {σ : L2.St} {H : Hp} {te tl : TE} {tt : TT} {g : TG} {vs : List Nat} {Q : VK}
end
end Dw
end
section
/-! a text of one sign, so many times -/
namespace Dw
open PySem PySem.Spec PyProof.Rows L2 Evl RZ M20 M25 CL PySem.W LD
section
variable {σ : L2.St} {H : Hp} {ta tb : TE}
end
end Dw
end
section
/-! x or y of things; the last of a list; lists turned about; comprehensions over range(i, j) -/
namespace Dw
open PySem PySem.Spec PyProof.Rows L2 Evl RZ M20 M25 CL PySem.W LD
mutual
theorem dpEx {K : PySem.W.Frag} {H H' : Hp} (e : Ex H H') : ∀ {v : V} {d : PyData}, Dp K H v d → Dp K H' v d
  | _, _, .non => .non
  | _, _, .bl b => .bl b
  | _, _, .int i => .int i
  | _, _, .str x => .str x
  | _, _, .lst h r => .lst (ex_l e h) (dpsEx e r)
  | _, _, .tup h r => .tup (ex_t e h) (dpsEx e r)
theorem dpsEx {K : PySem.W.Frag} {H H' : Hp} (e : Ex H H') : ∀ {vs : List V} {ds : List PyData}, DpAll K H vs ds → DpAll K H' vs ds
  | _, _, .nil => .nil
  | _, _, .cons a b => .cons (dpEx e a) (dpsEx e b)
end
section
variable {K : PySem.W.Frag} {σ : L2.St} {H : Hp} {te tl ta tb : TE} {tt : TT} {g : TG} {vs vs1 : List Nat} {Q : VK}
end
end Dw
end
section
/-! bool(x) of data; x in a list of data -/
namespace GBL
open PySem PyProof.Rows
end GBL
namespace Dw
open PySem PySem.Spec PyProof.Rows L2 Evl RZ M20 M25 CL PySem.W LD
end Dw
end
section
/-! products of tables -/
namespace LD
open M20 M25 CL
def dv (m : Nat) (r : List Nat) : List Nat := r.map fun k => k / m
theorem mem_rows {n : Nat} : ∀ {p : Nat} {r : List Nat}, r.length = p → (∀ k ∈ r, k < n) → r ∈ rows n p
  | 0, r, l, _ => by
    rw [List.eq_nil_of_length_eq_zero l]
    exact List.mem_singleton_self _
  | p + 1, r, l, lo => by
    rcases List.eq_nil_or_concat r with e | ⟨i, x, e⟩
    · rw [e] at l; cases l
    · subst e
      rw [List.concat_eq_append] at l lo ⊢
      rw [List.length_append] at l
      refine List.mem_flatMap.mpr ⟨i, mem_rows (p := p) (by simpa using l) (fun k hk => lo k (List.mem_append.mpr (.inl hk))), List.mem_map.mpr ⟨x, List.mem_range.mpr (lo x (List.mem_append.mpr (.inr (List.mem_singleton_self _)))), rfl⟩⟩
theorem g_map {f : Nat → Nat} {F : List Nat} {i : Nat} (h : i < F.length) : g (F.map f) i = f (g F i) := by
  have e := g_eq (show i < (F.map f).length by rw [List.length_map]; exact h)
  rw [List.getElem?_map, g_eq h] at e
  exact (Option.some.inj e).symm
end LD
end
section
/-! joins, quotients and images: the mathematics -/
namespace JN
open M20 M25 CL LD
theorem mem_g {l : List Nat} {x : Nat} (h : x ∈ l) : ∃ i, i < l.length ∧ g l i = x := by
  obtain ⟨i, hi, e⟩ := List.mem_iff_getElem.mp h
  exact ⟨i, hi, by rw [← Option.some.injEq, ← g_eq hi, List.getElem?_eq_getElem hi, e]⟩
/-! ### all partings -/
structure Can (n : Nat) (L : List Nat) : Prop where
  len : L.length = n
  le : ∀ i, i < n → g L i ≤ i
  fix : ∀ i, i < n → g L (g L i) = g L i
theorem Can.lt {n : Nat} {L : List Nat} (c : Can n L) {i : Nat} (h : i < n) : g L i < n := Nat.lt_of_le_of_lt (c.le i h) h
theorem Can.low {n : Nat} {L : List Nat} (c : Can n L) : ∀ k ∈ L, k < n := fun k hk => by
  obtain ⟨i, hi, rfl⟩ := mem_g hk
  rw [c.len] at hi
  exact c.lt hi
/-! ### what goes with the deeds -/
/-! ### the join of a lead -/
/-! ### numbers met, the order between -/
/-! ### tables -/
theorem ok_low {n p : Nat} {t r : List Nat} (p2 : p ≤ 2) (ht : Tab n p t) (hr : r ∈ rows n p) : g t (plc n r) < n := by
  obtain ⟨a, b⟩ := rows_of hr
  have := plc_low b (by rw [a]; exact p2)
  rw [a] at this
  exact ht.low _ this
theorem map_rows {n m p : Nat} {f : Nat → Nat} {r : List Nat} (hr : r ∈ rows n p) (h : ∀ k, k < n → f k < m) : r.map f ∈ rows m p := by
  obtain ⟨a, b⟩ := rows_of hr
  refine mem_rows (by rw [List.length_map, a]) fun k hk => ?_
  obtain ⟨x, hx, rfl⟩ := List.mem_map.mp hk
  exact h x (b x hx)
theorem src_plc {m p : Nat} (p2 : p ≤ 2) {b r : List Nat} (hr : r ∈ rows m p) (m0 : 0 < m) : src m p b (plc m r) = plc m (r.map (g b)) := by
  obtain ⟨lr, low⟩ := rows_of hr
  match r, lr, low with
  | [], lr, _ =>
    subst lr
    rfl
  | [a], lr, _ =>
    have : p = 1 := by rw [← lr]; rfl
    subst this
    show g b (0 * m + a) = 0 * m + g b a
    simp
  | [a, c], lr, low =>
    have : p = 2 := by rw [← lr]; rfl
    subst this
    have hc := low c (by simp)
    show g b (((0 * m + a) * m + c) / m) * m + g b (((0 * m + a) * m + c) % m) = (0 * m + g b a) * m + g b c
    simp only [Nat.zero_mul, Nat.zero_add]
    rw [Nat.add_comm (a * m) c, Nat.add_mul_div_right _ _ m0, Nat.div_eq_of_lt hc, Nat.zero_add, Nat.add_mul_mod_self_right, Nat.mod_eq_of_lt hc]
  | _ :: _ :: _ :: _, lr, _ =>
    simp only [List.length_cons] at lr
    omega
/-! ### the lead to a quotient, the lead from a part -/
end JN
end
section
/-! the least model is least among all that it is led to -/
namespace M25
open M20
end M25
end
section
/-! a map from one model to another, or a closed tree that there is none -/
namespace LK
open M20 M25 CL JN LD
/-- an order leads a table to another just where it carries each cell over -/
theorem hom_ren {n p : Nat} {F t1 t2 : List Nat} (p2 : p ≤ 2) (n1 : 0 < n) (h1 : Tab n p t1) (h2 : Tab n p t2) (hF : Ord n F) : ren n p F t1 = t2 ↔ ∀ r ∈ rows n p, g F (g t1 (plc n r)) = g t2 (plc n (r.map (g F))) := by
  have fb : ∀ r ∈ rows n p, (r.map (g F)).map (g (bk F)) = r := fun r hr => by
    rw [List.map_map]
    have : ∀ x ∈ r, (g (bk F) ∘ g F) x = id x := fun x hx => bk_g hF ((rows_of hr).2 x hx)
    rw [List.map_congr_left this, List.map_id]
  have bf : ∀ r ∈ rows n p, (r.map (g (bk F))).map (g F) = r := fun r hr => by
    rw [List.map_map]
    have : ∀ x ∈ r, (g F ∘ g (bk F)) x = id x := fun x hx => g_bk hF ((rows_of hr).2 x hx)
    rw [List.map_congr_left this, List.map_id]
  constructor
  · intro e r hr
    have hr2 : r.map (g F) ∈ rows n p := map_rows hr fun k hk => hF.low k hk
    have lt : plc n (r.map (g F)) < n ^ p := by
      obtain ⟨a, b⟩ := rows_of hr2
      rw [← a]
      exact plc_low b (by rw [a]; exact p2)
    rw [← e, ren_g lt, src_plc p2 hr2 n1, fb r hr]
  · intro e
    refine M20.ext (by rw [ren_len, h2.len]) fun s hs => ?_
    rw [ren_len] at hs
    obtain ⟨r, hr, rfl⟩ := rows_plc p2 n1 hs
    have mr := List.mem_iff_getElem?.mpr ⟨_, hr⟩
    have hr2 : r.map (g (bk F)) ∈ rows n p := map_rows mr fun k hk => bk_low hF hk
    have := e _ hr2
    rw [bf r mr] at this
    rw [ren_g hs, src_plc p2 mr n1, this]
/-- two signatures' tables by names -/
structure Sys (α : Type) where
  sg : List (α × Nat)
  n : Nat
  ta : α → List Nat
  tb : α → List Nat
structure Sys.Ok {α : Type} (S : Sys α) : Prop where
  n1 : 0 < S.n
  pl : ∀ d ∈ S.sg, d.2 ≤ 2
  a : ∀ d ∈ S.sg, Tab S.n d.2 (S.ta d.1)
  b : ∀ d ∈ S.sg, Tab S.n d.2 (S.tb d.1)
def clsh (n : Nat) (t1 t2 F r : List Nat) : Bool := if g t1 (plc n r) < F.length then !decide (g F (g t1 (plc n r)) = g t2 (plc n (r.map (g F)))) else decide (g t2 (plc n (r.map (g F))) ∈ F)
def bad {α : Type} (S : Sys α) (F : List Nat) (c : α × List Nat) : Bool := clsh S.n (S.ta c.1) (S.tb c.1) F c.2
def cls {α : Type} (sg : List (α × Nat)) (m : Nat) : List (α × List Nat) := sg.flatMap fun d => (rows m d.2).map fun r => (d.1, r)
def fc {α : Type} (S : Sys α) (F : List Nat) : Option (α × List Nat) := (cls S.sg F.length).find? (bad S F)
inductive PT (α : Type) where
  | clash (nm : α) (r : List Nat)
  | case (ks : List (PT α))
def goOn {α : Type} (f : List Nat → List Nat ⊕ PT α) (F : List Nat) : List Nat → List (PT α) → List Nat ⊕ PT α
  | [], acc => .inr (.case acc)
  | x :: xs, acc => match f (F ++ [x]) with
    | .inl m => .inl m
    | .inr t => goOn f F xs (acc ++ [t])
def led {α : Type} (S : Sys α) : Nat → List Nat → List Nat ⊕ PT α
  | 0, F => match fc S F with
    | some c => .inr (.clash c.1 c.2)
    | none => .inl F
  | k + 1, F => match fc S F with
    | some c => .inr (.clash c.1 c.2)
    | none => goOn (led S k) F (free S.n F) []
inductive Rt {α : Type} (S : Sys α) : List Nat → PT α → Prop where
  | clash {F : List Nat} {c : α × List Nat} : c ∈ cls S.sg F.length → bad S F c = true → Rt S F (.clash c.1 c.2)
  | case {F : List Nat} {ks : List (PT α)} : F.length < S.n → ks.length = (free S.n F).length → (∀ (i x : Nat) (t : PT α), ks[i]? = some t → (free S.n F)[i]? = some x → Rt S (F ++ [x]) t) → Rt S F (.case ks)
theorem cls_mem {α : Type} {sg : List (α × Nat)} {m : Nat} {c : α × List Nat} : c ∈ cls sg m ↔ ∃ d ∈ sg, c.1 = d.1 ∧ c.2 ∈ rows m d.2 := by
  unfold cls
  rw [List.mem_flatMap]
  constructor
  · rintro ⟨d, hd, h⟩
    obtain ⟨r, hr, rfl⟩ := List.mem_map.mp h
    exact ⟨d, hd, rfl, hr⟩
  · rintro ⟨d, hd, e, h⟩
    exact ⟨d, hd, List.mem_map.mpr ⟨c.2, h, by rw [← e]⟩⟩
/-- a clash stays where more are called -/
theorem bad_on {α : Type} {S : Sys α} (ok : S.Ok) {F m : List Nat} (hm : Bg S.n S.n m) (pre : F <+: m) {c : α × List Nat} (hc : c ∈ cls S.sg F.length) (hb : bad S F c = true) : c ∈ cls S.sg m.length ∧ bad S m c = true := by
  obtain ⟨d, hd, e, hr⟩ := cls_mem.mp hc
  obtain ⟨lr, rl⟩ := rows_of hr
  have le : F.length ≤ m.length := List.IsPrefix.length_le pre
  have lm := hm.len
  have hr2 : c.2 ∈ rows m.length d.2 := mem_rows lr fun k hk => Nat.lt_of_lt_of_le (rl k hk) le
  refine ⟨cls_mem.mpr ⟨d, hd, e, hr2⟩, ?_⟩
  have gp : ∀ k, k < F.length → g m k = g F k := fun k hk => by
    obtain ⟨r, rfl⟩ := pre
    show (F ++ r).getD k 0 = F.getD k 0
    rw [List.getD_eq_getElem?_getD, List.getD_eq_getElem?_getD, List.getElem?_append_left hk]
  have em : c.2.map (g m) = c.2.map (g F) := List.map_congr_left fun k hk => gp k (rl k hk)
  have ho := bg_ord.mp hm
  have hrn : c.2 ∈ rows S.n d.2 := by rw [← lm]; exact hr2
  have wl : g (S.ta c.1) (plc S.n c.2) < S.n := by rw [e]; exact ok_low (ok.pl d hd) (ok.a d hd) hrn
  unfold bad clsh at hb ⊢
  rw [if_pos (by rw [lm]; exact wl), em]
  by_cases z : g (S.ta c.1) (plc S.n c.2) < F.length
  · rw [if_pos z] at hb
    rw [gp _ z]
    exact hb
  · rw [if_neg z] at hb
    have mem := of_decide_eq_true hb
    obtain ⟨j, hj, ej⟩ := mem_g mem
    rw [← ej, ← gp j hj]
    rw [decide_eq_false]
    · rfl
    · intro y
      have := ho.inj _ _ wl (by omega) y
      omega
theorem fc_some {α : Type} {S : Sys α} {F : List Nat} {c : α × List Nat} (h : fc S F = some c) : c ∈ cls S.sg F.length ∧ bad S F c = true := ⟨List.mem_of_find?_eq_some h, List.find?_some h⟩
theorem fc_none {α : Type} {S : Sys α} {F : List Nat} : fc S F = none ↔ ∀ c ∈ cls S.sg F.length, bad S F c = false := by
  unfold fc
  rw [List.find?_eq_none]
  exact ⟨fun h c hc => Bool.eq_false_iff.mpr (h c hc), fun h c hc => Bool.eq_false_iff.mp (h c hc)⟩
theorem fc_on {α : Type} {S : Sys α} (ok : S.Ok) {F m : List Nat} (hm : Bg S.n S.n m) (pre : F <+: m) {c : α × List Nat} (h : fc S F = some c) : fc S m ≠ none := fun z => by
  obtain ⟨a, b⟩ := fc_some h
  obtain ⟨a2, b2⟩ := bad_on ok hm pre a b
  rw [fc_none.mp z c a2] at b2
  cases b2
/-- what going on tells -/
theorem go_right {α : Type} {S : Sys α} {f : List Nat → List Nat ⊕ PT α} {F : List Nat} {Good : List Nat → List Nat → Prop} {Bad : List Nat → PT α → Prop} :
    ∀ {xs : List Nat} {acc : List (PT α)}, (∀ x ∈ xs, ∀ m, f (F ++ [x]) = .inl m → Good (F ++ [x]) m) → (∀ x ∈ xs, ∀ t, f (F ++ [x]) = .inr t → Bad (F ++ [x]) t) →
      (∀ m, goOn f F xs acc = .inl m → ∃ x ∈ xs, Good (F ++ [x]) m) ∧ (∀ t, goOn f F xs acc = .inr t → ∃ ks, t = .case (acc ++ ks) ∧ ks.length = xs.length ∧ ∀ (i x : Nat) (t : PT α), ks[i]? = some t → xs[i]? = some x → Bad (F ++ [x]) t)
  | [], acc, _, _ => ⟨fun m h => (by cases h), fun t h => by
    cases Sum.inr.inj h
    exact ⟨[], by rw [List.append_nil], rfl, fun i x t h => (by cases h)⟩⟩
  | x :: xs, acc, hg, hb => by
    unfold goOn
    cases e : f (F ++ [x]) with
    | inl m =>
      refine ⟨fun m' h => ?_, fun t h => (by cases h)⟩
      cases Sum.inl.inj h
      exact ⟨x, List.mem_cons_self .., hg x (List.mem_cons_self ..) _ e⟩
    | inr t =>
      obtain ⟨a, b⟩ := go_right (S := S) (f := f) (F := F) (Good := Good) (Bad := Bad) (xs := xs) (acc := acc ++ [t]) (fun y hy => hg y (List.mem_cons_of_mem _ hy)) (fun y hy => hb y (List.mem_cons_of_mem _ hy))
      refine ⟨fun m h => ?_, fun t' h => ?_⟩
      · obtain ⟨y, hy, q⟩ := a m h
        exact ⟨y, List.mem_cons_of_mem _ hy, q⟩
      · obtain ⟨ks, e1, l, q⟩ := b t' h
        refine ⟨t :: ks, by rw [e1, List.append_assoc]; rfl, by rw [List.length_cons, List.length_cons, l], fun i y u h1 h2 => ?_⟩
        cases i with
        | zero =>
          cases Option.some.inj h1
          cases Option.some.inj h2
          exact hb x (List.mem_cons_self ..) _ e
        | succ i => exact q i y u h1 h2
theorem led_right {α : Type} {S : Sys α} (ok : S.Ok) : ∀ {k : Nat} {F : List Nat}, Bg S.n F.length F → F.length + k = S.n → (∀ m, led S k F = .inl m → Bg S.n S.n m ∧ F <+: m ∧ fc S m = none) ∧ (∀ t, led S k F = .inr t → Rt S F t ∧ ∀ m, Bg S.n S.n m → F <+: m → fc S m ≠ none)
  | 0, F, hF, e => by
    unfold led
    cases h : fc S F with
    | some c =>
      refine ⟨fun m z => (by cases z), fun t z => ?_⟩
      cases Sum.inr.inj z
      obtain ⟨a, b⟩ := fc_some h
      exact ⟨.clash a b, fun m hm pre => fc_on ok hm pre h⟩
    | none =>
      refine ⟨fun m z => ?_, fun t z => (by cases z)⟩
      cases Sum.inl.inj z
      rw [Nat.add_zero] at e
      exact ⟨by rw [e] at hF; exact hF, List.prefix_rfl, h⟩
  | k + 1, F, hF, e => by
    unfold led
    cases h : fc S F with
    | some c =>
      refine ⟨fun m z => (by cases z), fun t z => ?_⟩
      cases Sum.inr.inj z
      obtain ⟨a, b⟩ := fc_some h
      exact ⟨.clash a b, fun m hm pre => fc_on ok hm pre h⟩
    | none =>
      have step : ∀ x ∈ free S.n F, Bg S.n (F ++ [x]).length (F ++ [x]) ∧ (F ++ [x]).length + k = S.n := fun x hx => by
        obtain ⟨a, b⟩ := mem_free.mp hx
        have := hF.snoc a b
        rw [List.length_append]
        exact ⟨this, by show F.length + 1 + k = S.n; omega⟩
      obtain ⟨a, b⟩ := go_right (S := S) (f := led S k) (F := F) (xs := free S.n F) (acc := []) (Good := fun G m => Bg S.n S.n m ∧ G <+: m ∧ fc S m = none) (Bad := fun G t => Rt S G t ∧ ∀ m, Bg S.n S.n m → G <+: m → fc S m ≠ none)
        (fun x hx m z => (led_right ok (step x hx).1 (step x hx).2).1 m z) (fun x hx t z => (led_right ok (step x hx).1 (step x hx).2).2 t z)
      refine ⟨fun m z => ?_, fun t z => ?_⟩
      · obtain ⟨x, hx, q1, q2, q3⟩ := a m z
        exact ⟨q1, (List.prefix_append F [x]).trans q2, q3⟩
      · obtain ⟨ks, e1, l, q⟩ := b t z
        rw [List.nil_append] at e1
        subst e1
        refine ⟨.case (by omega) l fun i x t h1 h2 => (q i x t h1 h2).1, fun m hm pre => ?_⟩
        obtain ⟨r, er⟩ := id pre
        cases r with
        | nil =>
          rw [List.append_nil] at er
          have := hm.len
          rw [← er] at this
          omega
        | cons x r =>
          have nd := hm.nd
          rw [← er] at nd
          have nm : x ∉ F := fun z => (List.nodup_append.mp nd).2.2 x z x (List.mem_cons_self ..) rfl
          have lo : x < S.n := hm.low x (by rw [← er]; exact List.mem_append_right _ (List.mem_cons_self ..))
          obtain ⟨i, hi⟩ := List.mem_iff_getElem?.mp (mem_free.mpr ⟨lo, nm⟩)
          have il : i < ks.length := by rw [l]; exact (List.getElem?_eq_some_iff.mp hi).1
          exact (q i x _ (List.getElem?_eq_getElem il) hi).2 m hm ⟨r, by rw [List.append_assoc]; exact er⟩
/-- a whole order leads all just where no cell is odd -/
theorem fc_hom {α : Type} {S : Sys α} (ok : S.Ok) {m : List Nat} (hm : Bg S.n S.n m) : fc S m = none ↔ ∀ d ∈ S.sg, ren S.n d.2 m (S.ta d.1) = S.tb d.1 := by
  have ho := bg_ord.mp hm
  rw [fc_none]
  have key : ∀ d ∈ S.sg, ∀ r ∈ rows S.n d.2, bad S m (d.1, r) = false ↔ g m (g (S.ta d.1) (plc S.n r)) = g (S.tb d.1) (plc S.n (r.map (g m))) := fun d hd r hr => by
    have wl : g (S.ta d.1) (plc S.n r) < m.length := by rw [hm.len]; exact ok_low (ok.pl d hd) (ok.a d hd) hr
    unfold bad clsh
    rw [if_pos wl, Bool.not_eq_false', decide_eq_true_eq]
  constructor
  · intro h d hd
    exact (hom_ren (ok.pl d hd) ok.n1 (ok.a d hd) (ok.b d hd) ho).mpr fun r hr => (key d hd r hr).mp (h _ (cls_mem.mpr ⟨d, hd, rfl, by rw [hm.len]; exact hr⟩))
  · intro h c hc
    obtain ⟨d, hd, e, hr⟩ := cls_mem.mp hc
    rw [hm.len] at hr
    have := (key d hd c.2 hr).mpr ((hom_ren (ok.pl d hd) ok.n1 (ok.a d hd) (ok.b d hd) ho).mp (h d hd) c.2 hr)
    rw [← e] at this
    exact this
/-- no tree: some map; else none -/
theorem led_all {α : Type} {S : Sys α} (ok : S.Ok) : (∃ m, led S S.n [] = .inl m ∧ Ord S.n m ∧ ∀ d ∈ S.sg, ren S.n d.2 m (S.ta d.1) = S.tb d.1) ∨ ∃ t, led S S.n [] = .inr t ∧ Rt S [] t ∧ ∀ m, Ord S.n m → ¬ ∀ d ∈ S.sg, ren S.n d.2 m (S.ta d.1) = S.tb d.1 := by
  obtain ⟨a, b⟩ := led_right ok (k := S.n) (F := []) ⟨rfl, fun x z => (by cases z), List.nodup_nil⟩ (Nat.zero_add _)
  cases h : led S S.n [] with
  | inl m =>
    obtain ⟨q1, _, q3⟩ := a m h
    exact .inl ⟨m, rfl, bg_ord.mp q1, (fc_hom ok q1).mp q3⟩
  | inr t =>
    obtain ⟨q1, q2⟩ := b t h
    exact .inr ⟨t, rfl, q1, fun m hm z => q2 m (bg_ord.mpr hm) List.nil_prefix ((fc_hom ok (bg_ord.mpr hm)).mpr z)⟩
end LK
end
section
/-! two models are alike just where their least forms are one -/
namespace M25
open M20
end M25
end
section
/-! stacks, lists walked from behind, equal models, pairs and triples by what they hold -/
namespace Dw
open PySem PySem.Spec PyProof.Rows L2 Evl RZ
section
variable {K : PySem.W.Frag} {σ : L2.St} {H : Hp} {ta te : TE}
end
section
variable {σ : L2.St} {H : Hp}
theorem do_setG {te : TE} {g : TG} {tz : TS} {D : Ends} (h : te σ H fun x H1 => g x σ H1 fun σ2 H2 => tz D σ2 H2) : tSeq (tAsg te g) tz D σ H := h
end
section
variable {K : PySem.W.Frag} {σ : L2.St} {H : Hp} {t1 t2 t3 ta tb te : TE} {P1 P2 P3 : V → Hp → Prop}
end
def dT (ts : List (List Nat)) : PyData := .tuple (ts.map dN)
theorem Tabs.dp {K : PySem.W.Frag} {H : Hp} {v : V} {ts : List (List Nat)} (h : Tabs K H v ts) : Dp K H v (dT ts) := by
  obtain ⟨a, vs, rfl, s, p⟩ := h
  exact .tup s (dps_paired (fun _ _ z => Nats.dp z) p)
end Dw
end
section
/-! C(..) whose __init__ may raise, in a try -/
namespace Dw
open PySem PySem.Spec PyProof.Rows L2 Evl
section
variable {X : Cx} {CX : CXT} {k : Nat} {f C : Addr} {fd : FuncData} {ps : List Str} {sp : Sp} {x : Str} {p pos : Pos} {e : Expr} {es : List Expr} {t : TA}
end
end Dw
end
section
namespace K24
open PySem PySem.Spec PyProof.Rows L2 Evl Dw M20
open C8 (fnScope_by)
/-! ### the text -/
def topS (i : Nat) : Stmt := PySem.Challenge.pw_deedworlds_k24_maps_refused.main.body.getD i (.Pass ⟨0, 0, 0, 0⟩)
abbrev s_is_whole : Stmt := topS 6
theorem sc_is_whole : FnScope ["thing"] ["thing"] (defScope s_is_whole) := fnScope_by (by decide +kernel)
abbrev s_is_below : Stmt := topS 7
theorem sc_is_below : FnScope ["thing", "size"] ["thing", "size"] (defScope s_is_below) := fnScope_by (by decide +kernel)
abbrev s_are_unlike_below : Stmt := topS 9
theorem sc_are_unlike_below : FnScope ["things", "size", "met", "number"] ["things", "size"] (defScope s_are_unlike_below) := fnScope_by (by decide +kernel)
abbrev s_power : Stmt := topS 10
theorem sc_power : FnScope ["base", "many", "told", "step"] ["base", "many"] (defScope s_power) := fnScope_by (by decide +kernel)
abbrev s_rows_below : Stmt := topS 11
theorem sc_rows_below : FnScope ["size", "many", "rows", "step", "row", "number"] ["size", "many"] (defScope s_rows_below) := fnScope_by (by decide +kernel)
abbrev s_place_of_row : Stmt := topS 12
theorem sc_place_of_row : FnScope ["size", "row", "place", "number"] ["size", "row"] (defScope s_place_of_row) := fnScope_by (by decide +kernel)
abbrev s_table_of : Stmt := topS 14
theorem sc_table_of : FnScope ["signature", "tables", "name", "deed", "table"] ["signature", "tables", "name"] (defScope s_table_of) := fnScope_by (by decide +kernel)
abbrev s_is_name : Stmt := topS 21
theorem sc_is_name : FnScope ["thing", "sign"] ["thing"] (defScope s_is_name) := fnScope_by (by decide +kernel)
abbrev s_is_deed : Stmt := topS 22
theorem sc_is_deed : FnScope ["thing"] ["thing"] (defScope s_is_deed) := fnScope_by (by decide +kernel)
abbrev s_signature_wrong : Stmt := topS 23
theorem sc_signature_wrong : FnScope ["thing", "k", "deed", "names", "name"] ["thing"] (defScope s_signature_wrong) := fnScope_by (by decide +kernel)
abbrev s_need_signature : Stmt := topS 24
theorem sc_need_signature : FnScope ["signature"] ["signature"] (defScope s_need_signature) := fnScope_by (by decide +kernel)
abbrev s_is_size : Stmt := topS 26
theorem sc_is_size : FnScope ["thing"] ["thing"] (defScope s_is_size) := fnScope_by (by decide +kernel)
abbrev s_first_odd_cell : Stmt := topS 27
theorem sc_first_odd_cell : FnScope ["size", "tables", "k", "table", "at", "number"] ["size", "tables"] (defScope s_first_odd_cell) := fnScope_by (by decide +kernel)
abbrev s_model_wrong : Stmt := topS 28
theorem sc_model_wrong : FnScope ["signature", "thing", "size", "tables", "k", "deed", "odd"] ["signature", "thing"] (defScope s_model_wrong) := fnScope_by (by decide +kernel)
abbrev s_need_model : Stmt := topS 29
theorem sc_need_model : FnScope ["signature", "model"] ["signature", "model"] (defScope s_need_model) := fnScope_by (by decide +kernel)
abbrev s_need_two_models : Stmt := topS 30
theorem sc_need_two_models : FnScope ["signature", "one", "other"] ["signature", "one", "other"] (defScope s_need_two_models) := fnScope_by (by decide +kernel)
abbrev s_is_order : Stmt := topS 32
theorem sc_is_order : FnScope ["thing", "size"] ["thing", "size"] (defScope s_is_order) := fnScope_by (by decide +kernel)
abbrev s_turned_back : Stmt := topS 33
theorem sc_turned_back : FnScope ["order", "back", "number", "called"] ["order"] (defScope s_turned_back) := fnScope_by (by decide +kernel)
abbrev s_renamed_table : Stmt := topS 34
theorem sc_renamed_table : FnScope ["size", "places", "table", "order", "back", "number", "one", "other"] ["size", "places", "table", "order"] (defScope s_renamed_table) := fnScope_by (by decide +kernel)
abbrev s_renamed_tables : Stmt := topS 35
theorem sc_renamed_tables : FnScope ["signature", "size", "tables", "order", "told", "name", "places", "table"] ["signature", "size", "tables", "order"] (defScope s_renamed_tables) := fnScope_by (by decide +kernel)
abbrev s_is_same_for_all : Stmt := topS 36
theorem sc_is_same_for_all : FnScope ["size", "places", "table", "numbers", "exchange", "around"] ["size", "places", "table"] (defScope s_is_same_for_all) := fnScope_by (by decide +kernel)
abbrev s_with_called : Stmt := topS 37
theorem sc_with_called : FnScope ["olds", "names", "old"] ["olds", "names", "old"] (defScope s_with_called) := fnScope_by (by decide +kernel)
abbrev s_all_called : Stmt := topS 38
theorem sc_all_called : FnScope ["begins", "many", "longer", "olds", "names", "old"] ["begins", "many"] (defScope s_all_called) := fnScope_by (by decide +kernel)
abbrev s_least_worth : Stmt := topS 39
theorem sc_least_worth : FnScope ["size", "table", "args", "begins", "best", "kept", "olds", "names", "at", "arg", "worth", "told"] ["size", "table", "args", "begins"] (defScope s_least_worth) := fnScope_by (by decide +kernel)
abbrev s_least_begins : Stmt := topS 40
theorem sc_least_begins : FnScope ["signature", "size", "tables", "begins", "least", "name", "places", "table", "row", "args", "best"] ["signature", "size", "tables"] (defScope s_least_begins) := fnScope_by (by decide +kernel)
abbrev s_least_tables : Stmt := topS 41
theorem sc_least_tables : FnScope ["signature", "size", "tables"] ["signature", "size", "tables"] (defScope s_least_tables) := fnScope_by (by decide +kernel)
abbrev s_orders_to_least : Stmt := topS 42
theorem sc_orders_to_least : FnScope ["signature", "size", "tables", "begins", "olds", "names"] ["signature", "size", "tables"] (defScope s_orders_to_least) := fnScope_by (by decide +kernel)
abbrev s_renamings_many : Stmt := topS 43
theorem sc_renamings_many : FnScope ["signature", "size", "tables", "many", "number"] ["signature", "size", "tables"] (defScope s_renamings_many) := fnScope_by (by decide +kernel)
abbrev s_renamed : Stmt := topS 45
theorem sc_renamed : FnScope ["signature", "model", "order", "size", "tables"] ["signature", "model", "order"] (defScope s_renamed) := fnScope_by (by decide +kernel)
abbrev s_composed : Stmt := topS 46
theorem sc_composed : FnScope ["one", "other", "called"] ["one", "other"] (defScope s_composed) := fnScope_by (by decide +kernel)
abbrev s_renamed_by : Stmt := topS 47
theorem sc_renamed_by : FnScope ["one", "other"] ["one", "other"] (defScope s_renamed_by) := fnScope_by (by decide +kernel)
abbrev s_least_form : Stmt := topS 48
theorem sc_least_form : FnScope ["signature", "model", "size", "tables"] ["signature", "model"] (defScope s_least_form) := fnScope_by (by decide +kernel)
abbrev s_own_orders_of : Stmt := topS 49
theorem sc_own_orders_of : FnScope ["signature", "model", "orders", "back", "order"] ["signature", "model"] (defScope s_own_orders_of) := fnScope_by (by decide +kernel)
abbrev s_own_orders : Stmt := topS 50
theorem sc_own_orders : FnScope ["signature", "model"] ["signature", "model"] (defScope s_own_orders) := fnScope_by (by decide +kernel)
abbrev s_renamings : Stmt := topS 51
theorem sc_renamings : FnScope ["signature", "model"] ["signature", "model"] (defScope s_renamings) := fnScope_by (by decide +kernel)
abbrev s_orbits : Stmt := topS 52
theorem sc_orbits : FnScope ["signature", "model", "orders", "told", "number", "orbit", "order"] ["signature", "model"] (defScope s_orbits) := fnScope_by (by decide +kernel)
abbrev s_clashes : Stmt := topS 54
theorem sc_clashes : FnScope ["signature", "one", "other", "images", "name", "numbers", "size", "worth", "called", "there", "number"] ["signature", "one", "other", "images", "name", "numbers"] (defScope s_clashes) := fnScope_by (by decide +kernel)
abbrev s_first_clash : Stmt := topS 55
theorem sc_first_clash : FnScope ["signature", "one", "other", "images", "name", "places", "numbers"] ["signature", "one", "other", "images"] (defScope s_first_clash) := fnScope_by (by decide +kernel)
abbrev s_led_from : Stmt := topS 56
theorem sc_led_from : FnScope ["signature", "one", "other", "images", "clash", "trees", "number", "told"] ["signature", "one", "other", "images"] (defScope s_led_from) := fnScope_by (by decide +kernel)
abbrev s_likeness : Stmt := topS 57
theorem sc_likeness : FnScope ["signature", "one", "other"] ["signature", "one", "other"] (defScope s_likeness) := fnScope_by (by decide +kernel)
abbrev s_has_paper_form : Stmt := topS 58
theorem sc_has_paper_form : FnScope ["paper"] ["paper"] (defScope s_has_paper_form) := fnScope_by (by decide +kernel)
abbrev s_likeness_judged : Stmt := topS 63
theorem sc_likeness_judged : FnScope ["signature", "one", "other", "paper", "path"] ["signature", "one", "other", "paper"] (defScope s_likeness_judged) := fnScope_by (by decide +kernel)
abbrev s_purse : Stmt := topS 65
theorem sc_purse : FnScope ["_law_script", "_law_cells", "_law_k"] ["_law_script"] (defScope s_purse) := fnScope_by (by decide +kernel)
abbrev s_draw : Stmt := topS 66
theorem sc_draw : FnScope ["_law_purse_here", "_law_out_of", "_law_cells", "_law_turn", "_law_at", "_law_cell", "_law_number", "_law_other"] ["_law_purse_here", "_law_out_of"] (defScope s_draw) := fnScope_by (by decide +kernel)
abbrev s__law_pick : Stmt := topS 67
theorem sc__law_pick : FnScope ["_law_purse_here", "_law_things"] ["_law_purse_here", "_law_things"] (defScope s__law_pick) := fnScope_by (by decide +kernel)
abbrev s_mixed : Stmt := topS 68
theorem sc_mixed : FnScope ["_law_purse_here", "_law_things", "_law_found_here", "_law_thing"] ["_law_purse_here", "_law_things"] (defScope s_mixed) := fnScope_by (by decide +kernel)
abbrev s_sgn : Stmt := topS 69
theorem sc_sgn : FnScope ["_law_purse_here", "_law_most", "_law_names_here", "_law_some_here", "_law_k"] ["_law_purse_here", "_law_most"] (defScope s_sgn) := fnScope_by (by decide +kernel)
abbrev s_tbl : Stmt := topS 70
theorem sc_tbl : FnScope ["_law_purse_here", "_law_size", "_law_places", "_law_way_here", "_law_turned", "_law_by", "_law_brought", "_law_k", "_law_one", "_law_other", "_law_some_here"] ["_law_purse_here", "_law_size", "_law_places"] (defScope s_tbl) := fnScope_by (by decide +kernel)
abbrev s_mdl : Stmt := topS 71
theorem sc_mdl : FnScope ["_law_purse_here", "_law_signature_here", "_law_size", "_law_name", "_law_places"] ["_law_purse_here", "_law_signature_here", "_law_size"] (defScope s_mdl) := fnScope_by (by decide +kernel)
abbrev s_ordr : Stmt := topS 72
theorem sc_ordr : FnScope ["_law_purse_here", "_law_size"] ["_law_purse_here", "_law_size"] (defScope s_ordr) := fnScope_by (by decide +kernel)
abbrev s_led : Stmt := topS 73
theorem sc_led : FnScope ["_law_signature_here", "_law_model_here", "_law_order_here", "_law_size", "_law_tables", "_law_found_here", "_law_name", "_law_places", "_law_table_here", "_law_brought", "_law_k", "_law_spot"] ["_law_signature_here", "_law_model_here", "_law_order_here"] (defScope s_led) := fnScope_by (by decide +kernel)
abbrev s__law_call_of : Stmt := topS 75
theorem sc__law_call_of : FnScope ["_law_way_here", "_law_signature_here", "_law_one", "_law_other", "_law_order_here"] ["_law_way_here", "_law_signature_here", "_law_one", "_law_other", "_law_order_here"] (defScope s__law_call_of) := fnScope_by (by decide +kernel)
abbrev s__law_refused : Stmt := topS 76
theorem sc__law_refused : FnScope ["_law_way_here", "_law_signature_here", "_law_one", "_law_other", "_law_order_here", "_law_caught", "e", "_law_hits"] ["_law_way_here", "_law_signature_here", "_law_one", "_law_other", "_law_order_here"] (defScope s__law_refused) := fnScope_by (by decide +kernel)
abbrev s__law_no_model : Stmt := topS 77
theorem sc__law_no_model : FnScope ["_law_purse_here", "_law_model_here", "_law_size", "_law_tables", "_law_k", "_law_table_here", "_law_odd", "_law_bent", "_law_more"] ["_law_purse_here", "_law_model_here"] (defScope s__law_no_model) := fnScope_by (by decide +kernel)
abbrev s__law_no_order : Stmt := topS 78
theorem sc__law_no_order : FnScope ["_law_purse_here", "_law_order_here", "_law_odd"] ["_law_purse_here", "_law_order_here"] (defScope s__law_no_order) := fnScope_by (by decide +kernel)
abbrev s_law : Stmt := topS 79
theorem sc_law : FnScope ["_law_script", "_law_purse_here", "_law_time", "_law_signature_here", "_law_size", "_law_one", "_law_order_here", "_law_bad", "_law_strange", "_law_odd", "_law_gone", "_law_way_here", "_law_due_here", "_law_seen"] ["_law_script"] (defScope s_law) := fnScope_by (by decide +kernel)
/-- what the module's names hold -/
structure Txt (mg : Str → Option Value) : Prop where
  z_ValueError : mg "ValueError" = none
  z_abs : mg "abs" = none
  z_all : mg "all" = none
  z_bool : mg "bool" = none
  z_enumerate : mg "enumerate" = none
  z_int : mg "int" = none
  z_isinstance : mg "isinstance" = none
  z_len : mg "len" = none
  z_list : mg "list" = none
  z_max : mg "max" = none
  z_min : mg "min" = none
  z_range : mg "range" = none
  z_reversed : mg "reversed" = none
  z_set : mg "set" = none
  z_sorted : mg "sorted" = none
  z_str : mg "str" = none
  z_tuple : mg "tuple" = none
  z_zip : mg "zip" = none
  z_repr : mg "repr" = none
  c_NAME_LETTERS : ∃ t, mg "NAME_LETTERS" = some (.str "abcdefghijklmnopqrst" t)
  c_MOST_NAME : ∃ t, mg "MOST_NAME" = some (.int 4 t)
  c_MOST_DEEDS : ∃ t, mg "MOST_DEEDS" = some (.int 4 t)
  c_MOST_PLACES : ∃ t, mg "MOST_PLACES" = some (.int 2 t)
  c_MOST_SIZE : ∃ t, mg "MOST_SIZE" = some (.int 6 t)
section
variable {X : Cx} {x : Str} {pos : Pos}
theorem pe_gi {i : Int} (hg : Gl X x) (h : ∃ t, X.mg x = some (.int i t)) (hn : x ≠ "__name__" := by decide) (hd : (x == ("__debug__" : Str)) = false := by decide) : PE X (.Name x pos) (tC (.int i)) := by
  obtain ⟨t, e⟩ := h
  exact pe_glob hg e ⟨t, rfl⟩ (hd := hd)
theorem pe_gs {z : Str} (hg : Gl X x) (h : ∃ t, X.mg x = some (.str z t)) (hn : x ≠ "__name__" := by decide) (hd : (x == ("__debug__" : Str)) = false := by decide) : PE X (.Name x pos) (tC (.str z)) := by
  obtain ⟨t, e⟩ := h
  exact pe_glob hg e ⟨t, rfl⟩ (hd := hd)
theorem pe_ty (n : String) (hg : Gl X x) (hm : X.mg x = none) (hv : bootBuiltins x = some (.type n)) (hn : x ≠ "__name__" := by decide) (hd : (x == ("__debug__" : Str)) = false := by decide) : PE X (.Name x pos) (tC (.ty n)) := pe_bltn hg hm hv rfl (hn := hn) (hd := hd)
theorem ip_mul : PIp X .Mult (rI CMul fun i j => .int (i * j)) := iop_mul
end
section
variable {P : Program} {w : World} {K : PySem.W.Frag} {mg : Str → Option Value} {base : Heap}
/-! ### is_whole, is_below, power -/
def sp_is_whole : Sp := spX (fun (i : Int) vs _ => vs = [.int i]) (fun _ v _ => v = .bl true)
theorem c_is_whole (T : Txt mg) (D : Df K mg "is_whole" s_is_whole ["thing"]) : Cl P w K mg base 1 "is_whole" sp_is_whole := by
  refine cl_of (k := 0) D sc_is_whole (fun vs H Q E h => ?_) (fun f cdv A outer s H vs Q E hr h => ?_)
  · obtain ⟨i, rfl, _⟩ := h
    rfl
  · obtain ⟨i, rfl, q⟩ := h
    refine ⟨_, (pss_one (ps_ret (pe_and (pe_callB call_isi (by rfl) T.z_isinstance (by decide +kernel) (pa_cons (pv 0) (pa_cons (pe_ty "int" (by rfl) T.z_int (by decide +kernel)) pa_nil))) (pe_one (pe_not (pe_callB call_isi (by rfl) T.z_isinstance (by decide +kernel) (pa_cons (pv 0) (pa_cons (pe_ty "bool" (by rfl) T.z_bool (by decide +kernel)) pa_nil)))))))), ?_⟩
    exact s_ret (ev_andV (ev_isi (ev_var rfl) ev_c (.ty _) (fun _ _ => tyx_int i) kit_ii) (fun _ => ev_notV (ev_isi (ev_var rfl) ev_c (.ty _) (fun _ _ => tyx_int i) kit_ib))) fun H1 e => q _ H1 e rfl
def sp_is_below : Sp := spX (fun (p : Int × Int) vs _ => vs = [.int p.1, .int p.2] ∧ 0 ≤ p.1 ∧ p.1 < p.2) (fun _ v _ => v = .bl true)
theorem c_is_below (T : Txt mg) (D : Df K mg "is_below" s_is_below ["thing", "size"]) (c_is_whole : Cl P w K mg base 1 "is_whole" sp_is_whole) : Cl P w K mg base 2 "is_below" sp_is_below := by
  refine cl_of (k := 1) D sc_is_below (fun vs H Q E h => ?_) (fun f cdv A outer s H vs Q E hr h => ?_)
  · obtain ⟨p, ⟨rfl, _⟩, _⟩ := h
    rfl
  · obtain ⟨⟨i, n⟩, ⟨rfl, h0, h1⟩, q⟩ := h
    refine ⟨_, (pss_one (ps_ret (pe_and (pe_cl c_is_whole hr (by first | decide | omega) (by rfl) (pa_cons (pv 0) pa_nil)) (pe_one (pe_chain op_le op_lt pe_int (pv 0) (pv 1)))))), ?_⟩
    refine s_ret (ev_andV (ev_callV (v := .bl true) i (ea_cons (ev_var rfl) ea_nil) (fun _ _ => rfl) (fun _ _ p => p)) (fun _ => ev_chain ev_c (ev_var rfl) (fun _ => ev_var rfl) rv_I0 (fun _ => rv_I0))) fun H1 e => q _ H1 e ?_
    show V.bl (true && (decide (0 ≤ i) && decide (i < n))) = _
    rw [decide_eq_true h0, decide_eq_true h1]
    rfl
def sp_power : Sp := spX (fun (p : Nat × Nat) vs _ => vs = [vi p.1, vi p.2] ∧ p.1 ≤ 6 ∧ p.2 ≤ 2) (fun p v _ => v = vi (p.1 ^ p.2))
theorem c_power (T : Txt mg) (D : Df K mg "power" s_power ["base", "many"]) : Cl P w K mg base 1 "power" sp_power := by
  refine cl_of (k := 0) D sc_power (fun vs H Q E h => ?_) (fun f cdv A outer s H vs Q E hr h => ?_)
  · obtain ⟨p, ⟨rfl, _⟩, _⟩ := h
    rfl
  · obtain ⟨⟨b, m⟩, ⟨rfl, hb, hm⟩, q⟩ := h
    refine ⟨_, (pss_cons (ps_set (i := 2) sc_power.nd rfl (.inl rfl) pe_int)
      (pss_cons (ps_for PassesOwn.never (by rfl) (pi_range1 (by rfl) T.z_range (pa_cons (pv 1) pa_nil)) (pg_name (i := 3) sc_power.nd rfl (.inl rfl))
        (pss_one (ps_aug (i := 2) sc_power.nd rfl (.inl rfl) (pv 0) ip_mul)))
      (pss_one (ps_ret (pv 2))))), ?_⟩
    refine q_asg ev_c fun H1 e1 => ?_
    refine q_forR1 (ea_cons (ev_var rfl) ea_nil) (by omega) (fun i σ H' => ∃ y, σ = [some (vi b), some (vi m), some (vi (b ^ i)), y] ∧ Ex H H') (fun H2 e2 => ⟨none, rfl, e1.trans e2⟩) (fun i σ H' hi ⟨y, hσ, e⟩ => ?_) (fun σ H' ⟨y, hσ, e⟩ => ?_)
    · subst hσ
      refine ⟨_, rfl, _, rfl, ((b ^ i : Nat) : Int), (b : Int), rfl, rfl, .inr ⟨by omega, by omega⟩, some (vi i), ?_, e⟩
      show [some (vi b), some (vi m), some (.int (((b ^ i : Nat) : Int) * (b : Int))), some (vi i)] = [some (vi b), some (vi m), some (vi (b ^ (i + 1))), some (vi i)]
      rw [Nat.pow_succ]
      show _ = [some (vi b), some (vi m), some (.int ((b ^ i * b : Nat) : Int)), some (vi i)]
      rw [Int.natCast_mul]
    · subst hσ
      exact s_ret (ev_var rfl) fun H2 e2 => q _ H2 (e.trans e2) rfl
end
end K24
end
section
namespace K24
open PySem PySem.Spec PyProof.Rows L2 Evl Dw M20
section
variable {P : Program} {w : World} {K : PySem.W.Frag} {mg : Str → Option Value} {base : Heap}
theorem ix_tupK {X : Cx} (K : PySem.W.Frag) (h : X.K = K := by rfl) : IxR X (rIxT K) := by
  subst h
  exact ix_tup
theorem pi_tupK {X : Cx} {tg l : Expr} {tl : TE} (K : PySem.W.Frag) (hl : PE X l tl) (h : X.K = K := by rfl) : PI X tg l (iTup K tl) := by
  subst h
  exact pi_tup hl
/-! ### names, deeds, signatures -/
def letters : Str := "abcdefghijklmnopqrst"
structure Name (z : Str) : Prop where
  l1 : 1 ≤ z.length
  l4 : z.length ≤ 4
  abc : ∀ c ∈ z.cps.toList, c ∈ letters.cps.toList
def sp_is_name : Sp := spX (fun (z : Str) vs _ => vs = [.str z] ∧ Name z) (fun _ v _ => v = .bl true)
theorem c_is_name (T : Txt mg) (D : Df K mg "is_name" s_is_name ["thing"]) : Cl P w K mg base 1 "is_name" sp_is_name := by
  refine cl_of (k := 0) D sc_is_name (fun vs H Q E h => ?_) (fun f cdv A outer s H vs Q E hr h => ?_)
  · obtain ⟨p, ⟨rfl, _⟩, _⟩ := h
    rfl
  · obtain ⟨z, ⟨rfl, hz⟩, q⟩ := h
    refine ⟨_, (pss_cons (ps_if (PW.pt (pw_or (pt_not (pt_val (pe_callB call_isi (by rfl) T.z_isinstance (by decide +kernel) (pa_cons (pv 0) (pa_cons (pe_ty "str" (by rfl) T.z_str (by decide +kernel)) pa_nil))))) (pw_or1 (pt_not (pt_chain op_le op_le pe_int (pe_callB call_len_str (by rfl) T.z_len PySem.boot_len (pa_cons (pv 0) pa_nil)) (pe_gi (by rfl) T.c_MOST_NAME))))))
        (pss_one (ps_ret pe_bl))
        pss_nil)
      (pss_one (ps_ret (pe_callB (cr_all rfl) (by rfl) T.z_all (by decide +kernel) (pa_cons (pe_lc (own := [("sign", 1)]) (g := (gName 1)) (by rfl) sc_is_name.nd (pi_str (pv 0)) (blkOk_by (own := [("sign", 1)]) (N := ["thing", "sign"]) (sc := (defScope s_is_name)) (by decide +kernel)) (fun _ _ _ _ _ => (pg_name (i := 1) sc_is_name.nd rfl (.inl rfl))) (fun _ _ _ _ _ => pts_nil) (fun _ _ _ _ _ => (pe_cmpR op_in_sign (pv 1) (pe_gs (by rfl) T.c_NAME_LETTERS) (by rfl)))) pa_nil))))), ?_⟩
    have h1 := hz.l1
    have h4 := hz.l4
    have hs : z.cps.size = z.length := rfl
    refine q_when (b := false) (et_is (et_or (et_not (et_val (ev_isi (ev_var rfl) ev_c (.ty _) (fun _ _ => tyx_str z) kit_ss))) (fun _ => et_not (et_test (ev_chain ev_c (ev_lenS (ev_var rfl) (by omega)) (fun _ => ev_c) rv_I0 (fun _ => rv_I0))))) ?_) (fun hb => by cases hb) (fun _ H1 e1 => ?_)
    · show (!true || !(decide ((1 : Int) ≤ (z.length : Int)) && decide ((z.length : Int) ≤ 4))) = false
      rw [decide_eq_true (by omega), decide_eq_true (by omega)]
      rfl
    · refine s_ret (ev_all (bs := List.replicate z.cps.size true) ?_) fun H2 e2 => q _ H2 (e1.trans e2) ?_
      · have e : (List.replicate z.cps.size true).map V.bl = (List.range z.cps.size).map (fun _ => V.bl true) := by
          rw [List.map_const', List.length_range, List.map_replicate]
        rw [e]
        refine el_lcS (ev_var rfl) (fun _ => .bl true) (by omega) (fun _ => rfl) (fun i c H2 e2 hc => ?_)
        refine ev_op (ev_var rfl) ev_c ?_
        have hm : c ∈ letters.cps.toList := hz.abc c (by
          obtain ⟨hi, e⟩ := Array.getElem?_eq_some_iff.mp hc
          rw [← e]
          exact Array.getElem_mem_toList hi)
        exact fun H3 _ Q q3 => ⟨c, letters, rfl, rfl, by rw [decide_eq_true hm]; exact q3 H3 (Ex.refl H3)⟩
      · show V.bl ((List.replicate z.cps.size true).all id) = V.bl true
        rw [show (List.replicate z.cps.size true).all id = true from List.all_eq_true.mpr (fun b hb => (List.mem_replicate.mp hb).2)]
def sp_is_deed (K : PySem.W.Frag) : Sp := spX (fun (p : Str × Nat) vs H => (∃ v, vs = [v] ∧ Deed K H v p) ∧ Name p.1 ∧ p.2 ≤ 2) (fun _ v _ => v = .bl true)
theorem c_is_deed (T : Txt mg) (D : Df K mg "is_deed" s_is_deed ["thing"]) (c_is_name : Cl P w K mg base 1 "is_name" sp_is_name) (c_is_below : Cl P w K mg base 2 "is_below" sp_is_below) : Cl P w K mg base 3 "is_deed" (sp_is_deed K) := by
  refine cl_of (k := 2) D sc_is_deed (fun vs H Q E h => ?_) (fun f cdv A outer s H vs Q E hr h => ?_)
  · obtain ⟨p, ⟨⟨v, rfl, _⟩, _⟩, _⟩ := h
    rfl
  · obtain ⟨⟨z, p⟩, ⟨⟨v, rfl, b, rfl, hb⟩, hz, hp⟩, q⟩ := h
    refine ⟨_, (pss_one (ps_ret (pe_and (pe_callB call_isi (by rfl) T.z_isinstance (by decide +kernel) (pa_cons (pv 0) (pa_cons (pe_ty "tuple" (by rfl) T.z_tuple (by decide +kernel)) pa_nil))) (pe_and (pe_cmpR op_eq (pe_callB call_len_seq (by rfl) T.z_len PySem.boot_len (pa_cons (pv 0) pa_nil)) pe_int (nomark _)) (pe_and (pe_cl c_is_name hr (by first | decide | omega) (by rfl) (pa_cons (pe_ix ix_tup (pv 0) pe_int (fun _ _ => rfl)) pa_nil)) (pe_one (pe_cl c_is_below hr (by first | decide | omega) (by rfl) (pa_cons (pe_ix ix_tup (pv 0) pe_int (fun _ _ => rfl)) (pa_cons (pe_op op_add (pe_gi (by rfl) T.c_MOST_PLACES) pe_int) pa_nil))))))))), ?_⟩
    refine s_ret (ev_andV (ev_isi (ev_var rfl) ev_c (.ty _) (fun _ e => tyx_tup (ex_t e hb)) kit_tt) (fun _ => ev_andV (ev_op (ev_lenT (ev_var rfl) hb) ev_c (rv_eq rfl)) (fun _ =>
      ev_andV (ev_callV (v := .bl true) z (ea_cons (ev_op (ev_var rfl) ev_c (rv_ixT hb (atI_vi (k := 0) rfl))) ea_nil) (fun _ _ => ⟨rfl, hz⟩) (fun _ _ p => p)) (fun _ =>
        ev_callV (v := .bl true) (((p : Nat) : Int), (3 : Int)) (ea_cons (ev_op (ev_var rfl) ev_c (rv_ixT hb (atI_vi (k := 1) rfl))) (ea_cons (ev_op ev_c ev_c rv_I0) ea_nil)) (fun _ _ => ⟨rfl, by show (0 : Int) ≤ (p : Int); omega, by show (p : Int) < 3; have : p ≤ 2 := hp; omega⟩) (fun _ _ p => p))))) fun H1 e => q _ H1 e rfl
/-- a signature as the law draws it -/
structure SigOk (sg : List (Str × Nat)) : Prop where
  l1 : 1 ≤ sg.length
  l4 : sg.length ≤ 4
  nm : ∀ p ∈ sg, Name p.1
  pl : ∀ p ∈ sg, p.2 ≤ 2
  nd : (sg.map (·.1)).Nodup
def sp_signature_wrong (K : PySem.W.Frag) : Sp := spX (fun (sg : List (Str × Nat)) vs H => (∃ v, vs = [v] ∧ Sig K H v sg) ∧ SigOk sg) (fun _ v _ => v = .non)
theorem c_signature_wrong (T : Txt mg) (D : Df K mg "signature_wrong" s_signature_wrong ["thing"]) (c_is_deed : Cl P w K mg base 3 "is_deed" (sp_is_deed K)) : Cl P w K mg base 4 "signature_wrong" (sp_signature_wrong K) := by
  refine cl_of (k := 3) D sc_signature_wrong (fun vs H Q E h => ?_) (fun f cdv A outer s H vs Q E hr h => ?_)
  · obtain ⟨p, ⟨⟨v, rfl, _⟩, _⟩, _⟩ := h
    rfl
  · obtain ⟨sg, ⟨⟨v, rfl, a, us, rfl, hS, hP⟩, ok⟩, q⟩ := h
    refine ⟨_, (pss_cons (ps_if (PW.pt (pw_or (pt_not (pt_val (pe_callB call_isi (by rfl) T.z_isinstance (by decide +kernel) (pa_cons (pv 0) (pa_cons (pe_ty "tuple" (by rfl) T.z_tuple (by decide +kernel)) pa_nil))))) (pw_or1 (pt_not (pt_chain op_le op_le pe_int (pe_callB call_len_seq (by rfl) T.z_len PySem.boot_len (pa_cons (pv 0) pa_nil)) (pe_gi (by rfl) T.c_MOST_DEEDS))))))
        (pss_one (ps_ret (pe_tup (pa_cons pe_str pa_nil))))
        pss_nil)
      (pss_cons (ps_for PassesOwn.never (by rfl) (pi_enumT (by rfl) T.z_enumerate (pa_cons (pv 0) pa_nil)) (pg_tup (by rfl) (pgs_cons (pg_name (i := 1) sc_signature_wrong.nd rfl (.inl rfl)) (pgs_cons (pg_name (i := 2) sc_signature_wrong.nd rfl (.inl rfl)) pgs_nil)))
        (pss_one (ps_if (pt_not (pt_val (pe_cl c_is_deed hr (by first | decide | omega) (by rfl) (pa_cons (pv 2) pa_nil))))
          (pss_one (ps_ret (pe_tup (pa_cons pe_str (pa_cons (pv 1) pa_nil)))))
          pss_nil)))
      (pss_cons (ps_setLc (i := 3) (own := [("deed", 2)]) (g := (gName 2)) (by rfl) sc_signature_wrong.nd rfl rfl (sw_true rfl rfl rfl (by decide +kernel)) (pi_tup (pv 0)) (blkOk_by (own := [("deed", 2)]) (N := ["thing", "k", "deed", "names", "name"]) (sc := (defScope s_signature_wrong)) (by decide +kernel)) (fun _ _ _ _ _ => (pg_name (i := 2) sc_signature_wrong.nd rfl (.inl rfl))) (fun _ _ _ _ _ => pts_nil) (fun _ _ _ _ _ => (pe_ix (ix_tupK K) (pv 2) pe_int (fun _ _ => rfl))))
      (pss_cons (ps_for PassesOwn.never (by rfl) (pi_enum (by rfl) T.z_enumerate (pa_cons (pv 3) pa_nil)) (pg_tup (by rfl) (pgs_cons (pg_name (i := 1) sc_signature_wrong.nd rfl (.inl rfl)) (pgs_cons (pg_name (i := 4) sc_signature_wrong.nd rfl (.inl rfl)) pgs_nil)))
        (pss_one (ps_if (pt_cmpR op_in_seq (pv 4) (pe_slice sl_list (pv 3) po_none (po_some (pv 1))) (by rfl))
          (pss_one (ps_ret (pe_tup (pa_cons pe_str (pa_cons (pv 1) pa_nil)))))
          pss_nil)))
      (pss_one (ps_ret pe_non)))))), ?_⟩
    have h1 := ok.l1
    have h4 := ok.l4
    have hl : us.length = sg.length := paired_len hP
    refine q_when (b := false) (et_is (et_or (et_not (et_val (ev_isi (ev_var rfl) ev_c (.ty _) (fun _ e => tyx_tup (ex_t e hS)) kit_tt))) (fun _ => et_not (et_test (ev_chain ev_c (ev_lenT (ev_var rfl) hS) (fun _ => ev_c) rv_I0 (fun _ => rv_I0))))) ?_) (fun hb => by cases hb) (fun _ H1 e1 => ?_)
    · show (!true || !(decide ((1 : Int) ≤ (us.length : Int)) && decide ((us.length : Int) ≤ 4))) = false
      rw [decide_eq_true (by omega), decide_eq_true (by omega)]
      rfl
    -- each is a deed
    refine q_enumT (ea_cons (ev_var rfl) ea_nil) (ex_t e1 hS) (fun i σ H' => Ex H H' ∧ ∃ y1 y2, σ = [some (.ref a), y1, y2, none, none]) (fun H2 e2 => ⟨e1.trans e2, none, none, rfl⟩) (fun i σ H' _ ⟨e, _⟩ => ex_t e hS) (fun i x σ H2 H3 hx ⟨e, y1, y2, hσ⟩ e3 => ?_) (fun σ H2 ⟨e2, y1, y2, hσ⟩ => ?_)
    · subst hσ
      have hi : i < sg.length := by rw [← hl]; exact (List.getElem?_eq_some_iff.mp hx).1
      obtain ⟨x', ex', dx⟩ := paired_get hP (List.getElem?_eq_getElem hi)
      have : x' = x := Option.some.inj (ex'.symm.trans hx)
      subst this
      have hm : sg[i] ∈ sg := List.getElem_mem hi
      have e03 : Ex H H3 := e.trans e3
      refine s_when (b := false) (et_is (et_not (et_val (ev_callV (v := .bl true) sg[i] (ea_cons (ev_var rfl) ea_nil) (fun H4 e4 => ⟨⟨_, rfl, dx.et (Dw.Ex.et (e03.trans e4))⟩, ok.nm _ hm, ok.pl _ hm⟩) (fun _ _ p => p)))) rfl) (fun hb => by cases hb) (fun _ H4 e4 => ⟨e03.trans e4, _, _, rfl⟩)
    · subst hσ
      -- the names
      have names : EvL (tLc (iTup K (tVar 0)) (gName 2) tYes (tOp (rIxT K) (tVar 2) (tC (.int 0))) [2]) [some (.ref a), y1, y2, none, none] H2 ((List.range us.length).map fun i => .str (sg.getD i ("", 0)).1) := by
        refine el_lcT (ev_var rfl) (ex_t e2 hS) _ (by omega) (fun _ => rfl) (fun i x H3 e3 hx => ?_)
        have hi : i < sg.length := by rw [← hl]; exact (List.getElem?_eq_some_iff.mp hx).1
        obtain ⟨x', ex', b, hb, hd⟩ := paired_get hP (List.getElem?_eq_getElem hi)
        have : x' = x := Option.some.inj (ex'.symm.trans hx)
        subst this
        subst hb
        rw [List.getD_eq_getElem?_getD, List.getElem?_eq_getElem hi]
        exact ev_op (ev_var rfl) ev_c (rv_ixT (ex_t (e2.trans e3) hd) (atI_vi (k := 0) rfl))
      rw [hl] at names
      have eN : ((List.range sg.length).map fun i => V.str (sg.getD i ("", 0)).1) = (sg.map (·.1)).map V.str := by
        apply List.ext_getElem?
        intro i
        by_cases hi : i < sg.length
        · rw [List.getElem?_map, List.getElem?_range hi, List.getElem?_map, List.getElem?_map, List.getElem?_eq_getElem hi]
          show some (V.str (sg.getD i ("", 0)).1) = some (V.str sg[i].1)
          rw [List.getD_eq_getElem?_getD, List.getElem?_eq_getElem hi]
          rfl
        · rw [List.getElem?_eq_none_iff.mpr (by simp; omega), List.getElem?_eq_none_iff.mpr (by simp; omega)]
      rw [eN] at names
      refine q_asgL names fun p H3 np e3 hp => ?_
      have e03 : Ex H H3 := e2.trans e3
      refine q_enumL (K := K) (ea_cons (ev_var rfl) ea_nil) (sq_of hp) (fun i σ H' => Ex H3 H' ∧ ∃ z1 z4, σ = [some (.ref a), z1, y2, some (.ref p), z4]) (fun H4 e4 => ⟨e4, _, _, rfl⟩) (fun i σ H' _ ⟨e, _⟩ => ex_l e (sq_of hp)) (fun i x σ H4 H5 hx ⟨e4, z1, z4, hσ⟩ e5 => ?_) (fun σ H4 ⟨e4, z1, z4, hσ⟩ => ?_)
      · subst hσ
        have hi : i < (sg.map (·.1)).length := by simpa using (List.getElem?_eq_some_iff.mp hx).1
        have ex : x = .str (sg.map (·.1))[i] := by
          rw [List.getElem?_map, List.getElem?_eq_getElem hi] at hx
          exact (Option.some.inj hx).symm
        subst ex
        have cut : cutV ((sg.map (·.1)).map V.str) none (some (i : Int)) = ((sg.map (·.1)).take i).map V.str := by
          unfold cutV
          rw [HT.sIx_none, HT.sIx_nat, List.length_map, Nat.sub_zero, List.drop_zero, ← List.map_take, Nat.min_eq_left (Nat.le_of_lt hi)]
        have flat : (((sg.map (·.1)).take i).map V.str).all flatV = true := List.all_eq_true.mpr (fun v hv => by
          obtain ⟨z, _, rfl⟩ := List.mem_map.mp hv
          rfl)
        have out : inV (.str (sg.map (·.1))[i]) (((sg.map (·.1)).take i).map V.str) = false := by
          unfold inV
          rw [List.any_eq_false]
          intro v hv
          obtain ⟨z, hz, rfl⟩ := List.mem_map.mp hv
          show ¬ (z == (sg.map (·.1))[i]) = true
          intro he
          have he' : z = (sg.map (·.1))[i] := eq_of_beq he
          obtain ⟨j, hj, ej⟩ := List.mem_take_iff_getElem.mp hz
          have hji : j < i := by omega
          have := (List.getElem_inj ok.nd).mp (ej.trans he')
          omega
        have eL : Ex H3 H5 := e4.trans e5
        have sl : EvL (tSl (rSlL K) (tVar 3) tNoPart (tPart (tVar 1))) [some (.ref a), some (vi i), y2, some (.ref p), some (.str (sg.map (·.1))[i])] H5 (((sg.map (·.1)).take i).map V.str) := by
          rw [← cut]
          exact el_sl (ev_var rfl) eo_none (eo_some (ev_var rfl)) (ex_l eL (sq_of hp))
        exact s_when (b := false) (et_is (et_test (ev_opL (ev_var rfl) sl (fun r H6 hr6 _ => rv_isL (sq_of hr6) rfl flat))) out) (fun hb => by cases hb) (fun _ H6 e6 => ⟨eL.trans e6, _, _, rfl⟩)
      · subst hσ
        exact s_ret ev_c fun H5 e5 => q _ H5 ((e03.trans e4).trans e5) rfl
def sp_need_signature (K : PySem.W.Frag) : Sp := spX (fun (sg : List (Str × Nat)) vs H => (∃ v, vs = [v] ∧ Sig K H v sg) ∧ SigOk sg) (fun _ v _ => v = .non)
theorem c_need_signature (T : Txt mg) (D : Df K mg "need_signature" s_need_signature ["signature"]) (c_signature_wrong : Cl P w K mg base 4 "signature_wrong" (sp_signature_wrong K)) : Cl P w K mg base 5 "need_signature" (sp_need_signature K) := by
  refine cl_of (k := 4) D sc_need_signature (fun vs H Q E h => ?_) (fun f cdv A outer s H vs Q E hr h => ?_)
  · obtain ⟨p, ⟨⟨v, rfl, _⟩, _⟩, _⟩ := h
    rfl
  · obtain ⟨sg, ⟨⟨v, rfl, hS⟩, ok⟩, q⟩ := h
    refine ⟨_, (pss_one (ps_if (pt_cmpR op_notN (pe_cl c_signature_wrong hr (by first | decide | omega) (by rfl) (pa_cons (pv 0) pa_nil)) pe_non (nomark _))
        (pss_one ps_never)
        pss_nil)), ?_⟩
    exact s_when (b := false) (et_is (et_isN (ev_callV (v := .non) sg (ea_cons (ev_var rfl) ea_nil) (fun H1 e1 => ⟨⟨_, rfl, hS.ex e1⟩, ok⟩) (fun _ _ p => p))) rfl) (fun hb => by cases hb) (fun _ H1 e1 => q _ H1 e1 rfl)
/-! ### models looked at -/
def sp_is_size : Sp := spX (fun (n : Nat) vs _ => vs = [vi n] ∧ 1 ≤ n ∧ n ≤ 6) (fun _ v _ => v = .bl true)
theorem c_is_size (T : Txt mg) (D : Df K mg "is_size" s_is_size ["thing"]) (c_is_whole : Cl P w K mg base 1 "is_whole" sp_is_whole) : Cl P w K mg base 2 "is_size" sp_is_size := by
  refine cl_of (k := 1) D sc_is_size (fun vs H Q E h => ?_) (fun f cdv A outer s H vs Q E hr h => ?_)
  · obtain ⟨p, ⟨rfl, _⟩, _⟩ := h
    rfl
  · obtain ⟨n, ⟨rfl, h1, h6⟩, q⟩ := h
    refine ⟨_, (pss_one (ps_ret (pe_and (pe_cl c_is_whole hr (by first | decide | omega) (by rfl) (pa_cons (pv 0) pa_nil)) (pe_one (pe_chain op_le op_le pe_int (pv 0) (pe_gi (by rfl) T.c_MOST_SIZE)))))), ?_⟩
    refine s_ret (ev_andV (ev_callV (v := .bl true) (n : Int) (ea_cons (ev_var rfl) ea_nil) (fun _ _ => rfl) (fun _ _ p => p)) (fun _ => ev_chain ev_c (ev_var rfl) (fun _ => ev_c) rv_I0 (fun _ => rv_I0))) fun H1 e => q _ H1 e ?_
    show V.bl (true && (decide ((1 : Int) ≤ (n : Int)) && decide ((n : Int) ≤ 6))) = _
    rw [decide_eq_true (by omega), decide_eq_true (by omega)]
    rfl
def sp_first_odd_cell (K : PySem.W.Frag) : Sp := spX (fun (p : Nat × List (List Nat)) vs H => (∃ v, vs = [vi p.1, v] ∧ Tabs K H v p.2) ∧ ∀ t ∈ p.2, ∀ k ∈ t, k < p.1) (fun _ v _ => v = .non)
theorem c_first_odd_cell (T : Txt mg) (D : Df K mg "first_odd_cell" s_first_odd_cell ["size", "tables"]) (c_is_below : Cl P w K mg base 2 "is_below" sp_is_below) : Cl P w K mg base 3 "first_odd_cell" (sp_first_odd_cell K) := by
  refine cl_of (k := 2) D sc_first_odd_cell (fun vs H Q E h => ?_) (fun f cdv A outer s H vs Q E hr h => ?_)
  · obtain ⟨p, ⟨⟨v, rfl, _⟩, _⟩, _⟩ := h
    rfl
  · obtain ⟨⟨n, ts⟩, ⟨⟨v, rfl, a, us, rfl, hS, hP⟩, low⟩, q⟩ := h
    refine ⟨_, (pss_cons (ps_for PassesOwn.never (by rfl) (pi_enumT (by rfl) T.z_enumerate (pa_cons (pv 1) pa_nil)) (pg_tup (by rfl) (pgs_cons (pg_name (i := 2) sc_first_odd_cell.nd rfl (.inl rfl)) (pgs_cons (pg_name (i := 3) sc_first_odd_cell.nd rfl (.inl rfl)) pgs_nil)))
        (pss_one (ps_for PassesOwn.never (by rfl) (pi_enumT (by rfl) T.z_enumerate (pa_cons (pv 3) pa_nil)) (pg_tup (by rfl) (pgs_cons (pg_name (i := 4) sc_first_odd_cell.nd rfl (.inl rfl)) (pgs_cons (pg_name (i := 5) sc_first_odd_cell.nd rfl (.inl rfl)) pgs_nil)))
          (pss_one (ps_if (pt_not (pt_val (pe_cl c_is_below hr (by first | decide | omega) (by rfl) (pa_cons (pv 5) (pa_cons (pv 0) pa_nil)))))
            (pss_one (ps_ret (pe_tup (pa_cons (pv 2) (pa_cons (pv 4) pa_nil)))))
            pss_nil)))))
      (pss_one (ps_ret pe_non))), ?_⟩
    refine q_enumT (ea_cons (ev_var rfl) ea_nil) hS (fun i σ H' => Ex H H' ∧ ∃ y2 y3 y4 y5, σ = [some (vi n), some (.ref a), y2, y3, y4, y5]) (fun H2 e2 => ⟨e2, none, none, none, none, rfl⟩) (fun i σ H' _ ⟨e, _⟩ => ex_t e hS) (fun i x σ H2 H3 hx ⟨e, y2, y3, y4, y5, hσ⟩ e3 => ?_) (fun σ H2 ⟨e2, _, _, _, _, hσ⟩ => ?_)
    · subst hσ
      have hi : i < ts.length := by rw [← paired_len hP]; exact (List.getElem?_eq_some_iff.mp hx).1
      obtain ⟨x', ex', b, hb, hd⟩ := paired_get hP (List.getElem?_eq_getElem hi)
      have : x' = x := Option.some.inj (ex'.symm.trans hx)
      subst this
      subst hb
      have e03 : Ex H H3 := e.trans e3
      refine s_enumT (ea_cons (ev_var rfl) ea_nil) (ex_t e03 hd) (fun j σ H' => Ex H H' ∧ ∃ y4 y5, σ = [some (vi n), some (.ref a), some (vi i), some (.ref b), y4, y5]) (fun H4 e4 => ⟨e03.trans e4, _, _, rfl⟩) (fun j σ H' _ ⟨e, _⟩ => ex_t e hd) (fun j y σ H4 H5 hy ⟨e4, z4, z5, hσ⟩ e5 => ?_) (fun σ H4 ⟨e4, z4, z5, hσ⟩ => ?_)
      · subst hσ
        have hj : j < ts[i].length := by simpa using (List.getElem?_eq_some_iff.mp hy).1
        have ey : y = vi ts[i][j] := by
          rw [List.getElem?_map, List.getElem?_eq_getElem hj] at hy
          exact (Option.some.inj hy).symm
        subst ey
        have lo : ts[i][j] < n := low _ (List.getElem_mem hi) _ (List.getElem_mem hj)
        exact s_when (b := false) (et_is (et_not (et_val (ev_callV (v := .bl true) (((ts[i][j] : Nat) : Int), (n : Int)) (ea_cons (ev_var rfl) (ea_cons (ev_var rfl) ea_nil)) (fun H4 e4 => ⟨rfl, by show (0 : Int) ≤ ((ts[i][j] : Nat) : Int); omega, by show ((ts[i][j] : Nat) : Int) < (n : Int); omega⟩) (fun _ _ p => p)))) rfl) (fun hb => by cases hb) (fun _ H6 e6 => ⟨(e4.trans e5).trans e6, _, _, rfl⟩)
      · subst hσ
        exact ⟨e4, _, _, _, _, rfl⟩
    · subst hσ
      exact s_ret ev_c fun H3 e3 => q _ H3 (e2.trans e3) rfl
/-- a model of a signature, as tables of natural numbers -/
structure MdlOk (sg : List (Str × Nat)) (n : Nat) (ts : List (List Nat)) : Prop where
  n1 : 1 ≤ n
  n6 : n ≤ 6
  len : ts.length = sg.length
  tab : ∀ i (h1 : i < sg.length) (h2 : i < ts.length), Tab n sg[i].2 ts[i]
theorem MdlOk.low {sg : List (Str × Nat)} {n : Nat} {ts : List (List Nat)} (m : MdlOk sg n ts) : ∀ t ∈ ts, ∀ k ∈ t, k < n := by
  intro t ht k hk
  obtain ⟨i, hi, e⟩ := List.mem_iff_getElem.mp ht
  subst e
  have tb := m.tab i (by rw [← m.len]; exact hi) hi
  obtain ⟨j, hj, e⟩ := List.mem_iff_getElem.mp hk
  have h := tb.low j (by rw [← tb.len]; exact hj)
  have g1 := g_eq hj
  rw [List.getElem?_eq_getElem hj, e] at g1
  rw [← Option.some.inj g1] at h
  exact h
def sp_model_wrong (K : PySem.W.Frag) : Sp := spX (fun (p : List (Str × Nat) × Nat × List (List Nat)) vs H => (∃ u v, vs = [u, v] ∧ Sig K H u p.1 ∧ Mdl K H v p.2.1 p.2.2) ∧ SigOk p.1 ∧ MdlOk p.1 p.2.1 p.2.2) (fun _ v _ => v = .non)
theorem c_model_wrong (T : Txt mg) (D : Df K mg "model_wrong" s_model_wrong ["signature", "thing"]) (c_need_signature : Cl P w K mg base 5 "need_signature" (sp_need_signature K)) (c_is_size : Cl P w K mg base 2 "is_size" sp_is_size)
    (c_power : Cl P w K mg base 1 "power" sp_power) (c_first_odd_cell : Cl P w K mg base 3 "first_odd_cell" (sp_first_odd_cell K)) : Cl P w K mg base 6 "model_wrong" (sp_model_wrong K) := by
  refine cl_of (k := 5) D sc_model_wrong (fun vs H Q E h => ?_) (fun f cdv A outer s H vs Q E hr h => ?_)
  · obtain ⟨p, ⟨⟨u, v, rfl, _⟩, _⟩, _⟩ := h
    rfl
  · obtain ⟨⟨sg, n, ts⟩, ⟨⟨u, v, rfl, hG, hM⟩, sok, mok⟩, q⟩ := h
    refine ⟨_, (pss_cons (ps_expr (pe_cl c_need_signature hr (by first | decide | omega) (by rfl) (pa_cons (pv 0) pa_nil)))
      (pss_cons (ps_if (PW.pt (pw_or (pt_not (pt_val (pe_callB call_isi (by rfl) T.z_isinstance (by decide +kernel) (pa_cons (pv 1) (pa_cons (pe_ty "tuple" (by rfl) T.z_tuple (by decide +kernel)) pa_nil))))) (pw_or1 (pt_cmpR op_ne (pe_callB call_len_seq (by rfl) T.z_len PySem.boot_len (pa_cons (pv 1) pa_nil)) pe_int (nomark _)))))
        (pss_one (ps_ret (pe_tup (pa_cons pe_str pa_nil))))
        pss_nil)
      (pss_cons (ps_asg (pv 1) (pg_tup (by rfl) (pgs_cons (pg_name (i := 2) sc_model_wrong.nd rfl (.inl rfl)) (pgs_cons (pg_name (i := 3) sc_model_wrong.nd rfl (.inl rfl)) pgs_nil))))
      (pss_cons (ps_if (pt_not (pt_val (pe_cl c_is_size hr (by first | decide | omega) (by rfl) (pa_cons (pv 2) pa_nil))))
        (pss_one (ps_ret (pe_tup (pa_cons pe_str pa_nil))))
        pss_nil)
      (pss_cons (ps_if (PW.pt (pw_or (pt_not (pt_val (pe_callB call_isi (by rfl) T.z_isinstance (by decide +kernel) (pa_cons (pv 3) (pa_cons (pe_ty "tuple" (by rfl) T.z_tuple (by decide +kernel)) pa_nil))))) (pw_or1 (pt_cmpR op_ne (pe_callB call_len_seq (by rfl) T.z_len PySem.boot_len (pa_cons (pv 3) pa_nil)) (pe_callB call_len_seq (by rfl) T.z_len PySem.boot_len (pa_cons (pv 0) pa_nil)) (nomark _)))))
        (pss_one (ps_ret (pe_tup (pa_cons pe_str pa_nil))))
        pss_nil)
      (pss_cons (ps_for PassesOwn.never (by rfl) (pi_enumT (by rfl) T.z_enumerate (pa_cons (pv 0) pa_nil)) (pg_tup (by rfl) (pgs_cons (pg_name (i := 4) sc_model_wrong.nd rfl (.inl rfl)) (pgs_cons (pg_name (i := 5) sc_model_wrong.nd rfl (.inl rfl)) pgs_nil)))
        (pss_one (ps_if (PW.pt (pw_or (pt_not (pt_val (pe_callB call_isi (by rfl) T.z_isinstance (by decide +kernel) (pa_cons (pe_ix ix_tup (pv 3) (pv 4) (fun _ _ => rfl)) (pa_cons (pe_ty "tuple" (by rfl) T.z_tuple (by decide +kernel)) pa_nil))))) (pw_or1 (pt_cmpR op_ne (pe_callB call_len_seq (by rfl) T.z_len PySem.boot_len (pa_cons (pe_ix ix_tup (pv 3) (pv 4) (fun _ _ => rfl)) pa_nil)) (pe_cl c_power hr (by first | decide | omega) (by rfl) (pa_cons (pv 2) (pa_cons (pe_ix ix_tup (pv 5) pe_int (fun _ _ => rfl)) pa_nil))) (nomark _)))))
          (pss_one (ps_ret (pe_tup (pa_cons pe_str (pa_cons (pv 4) pa_nil)))))
          pss_nil)))
      (pss_cons (ps_set (i := 6) sc_model_wrong.nd rfl (.inl rfl) (pe_cl c_first_odd_cell hr (by first | decide | omega) (by rfl) (pa_cons (pv 2) (pa_cons (pv 3) pa_nil))))
      (pss_one (ps_ret (pe_ifExp (pt_cmpR op_isN (pv 6) pe_non (nomark _)) pe_non (pe_tup (pa_cons pe_str (pa_cons (pe_ix ix_tup (pv 6) pe_int (fun _ _ => rfl)) (pa_cons (pe_ix ix_tup (pv 6) pe_int (fun _ _ => rfl)) pa_nil)))))))))))))), ?_⟩
    obtain ⟨a, us, rfl, hS, hP⟩ := id hG
    obtain ⟨b, tv, rfl, hB, c, tvs, rfl, hC, hT⟩ := id hM
    have n1 := mok.n1
    have n6 := mok.n6
    have lS : us.length = sg.length := paired_len hP
    have lT : tvs.length = ts.length := paired_len hT
    have lM : ts.length = sg.length := mok.len
    refine q_drop (ev_callV (v := .non) sg (ea_cons (ev_var rfl) ea_nil) (fun H1 e1 => ⟨⟨_, rfl, hG.ex e1⟩, sok⟩) (fun _ _ p => p)) fun H1 e1 => ?_
    refine q_when (b := false) (et_is (et_or (et_not (et_val (ev_isi (ev_var rfl) ev_c (.ty _) (fun _ e => tyx_tup (ex_t (e1.trans e) hB)) kit_tt))) (fun _ => et_test (ev_op (ev_lenT (ev_var rfl) (ex_t e1 hB)) ev_c (rv_ne rfl)))) rfl) (fun hb => by cases hb) (fun _ H2 e2 => ?_)
    have e02 := e1.trans e2
    -- size, tables = thing
    refine ⟨.ref b, rfl, b, _, rfl, ex_t e02 hB, rfl, _, _, rfl, _, _, rfl, rfl, ?_⟩
    refine q_when (b := false) (et_is (et_not (et_val (ev_callV (v := .bl true) n (ea_cons (ev_var rfl) ea_nil) (fun _ _ => ⟨rfl, n1, n6⟩) (fun _ _ p => p)))) rfl) (fun hb => by cases hb) (fun _ H3 e3 => ?_)
    have e03 := e02.trans e3
    refine q_when (b := false) (et_is (et_or (et_not (et_val (ev_isi (ev_var rfl) ev_c (.ty _) (fun _ e => tyx_tup (ex_t (e03.trans e) hC)) kit_tt))) (fun _ => et_test (ev_op (ev_lenT (ev_var rfl) (ex_t e03 hC)) (ev_lenT (ev_var rfl) (ex_t e03 hS)) (rv_ne rfl)))) ?_) (fun hb => by cases hb) (fun _ H4 e4 => ?_)
    · show (!true || !decide (V.int (tvs.length : Int) = V.int (us.length : Int))) = false
      rw [lT, lS, lM, decide_eq_true rfl]
      rfl
    have e04 := e03.trans e4
    refine q_enumT (ea_cons (ev_var rfl) ea_nil) (ex_t e04 hS) (fun i σ H' => Ex H H' ∧ ∃ y4 y5, σ = [some (.ref a), some (.ref b), some (vi n), some (.ref c), y4, y5, none]) (fun H5 e5 => ⟨e04.trans e5, none, none, rfl⟩) (fun i σ H' _ ⟨e, _⟩ => ex_t e hS) (fun i x σ H5 H6 hx ⟨e, y4, y5, hσ⟩ e6 => ?_) (fun σ H5 ⟨e5, y4, y5, hσ⟩ => ?_)
    · subst hσ
      have hi : i < sg.length := by rw [← lS]; exact (List.getElem?_eq_some_iff.mp hx).1
      have hi2 : i < ts.length := by rw [lM]; exact hi
      obtain ⟨x', ex', d, hd, dd⟩ := paired_get hP (List.getElem?_eq_getElem hi)
      have : x' = x := Option.some.inj (ex'.symm.trans hx)
      subst this
      subst hd
      obtain ⟨y', ey', r, hr', rr⟩ := paired_get hT (List.getElem?_eq_getElem hi2)
      subst hr'
      have e06 : Ex H H6 := e.trans e6
      have tb := mok.tab i hi hi2
      have p2 : sg[i].2 ≤ 2 := sok.pl _ (List.getElem_mem hi)
      have tk : Ev (tOp (rIxT K) (tVar 3) (tVar 4)) [some (.ref a), some (.ref b), some (vi n), some (.ref c), some (vi i), some (.ref d), none] H6 (.ref r) := ev_op (ev_var rfl) (ev_var rfl) (rv_ixT (ex_t e06 hC) (atI_vi ey'))
      refine s_when (b := false) (et_is (et_or (et_not (et_val (ev_isi tk ev_c (.ty _) (fun _ e => tyx_tup (ex_t (e06.trans e) rr)) kit_tt))) (fun _ => et_test (ev_op (ev_lenT tk (ex_t e06 rr)) (ev_callV (v := vi (n ^ sg[i].2)) (n, sg[i].2) (ea_cons (ev_var rfl) (ea_cons (ev_op (ev_var rfl) ev_c (rv_ixT (ex_t e06 dd) (atI_vi (k := 1) rfl))) ea_nil)) (fun _ _ => ⟨rfl, n6, p2⟩) (fun _ _ p => p)) (rv_ne rfl)))) ?_) (fun hb => by cases hb) (fun _ H7 e7 => ⟨e06.trans e7, _, _, rfl⟩)
      show (!true || !decide (V.int (((ts[i].map vi).length : Nat) : Int) = vi (n ^ sg[i].2))) = false
      rw [List.length_map, tb.len, decide_eq_true rfl]
      rfl
    · subst hσ
      refine q_asg (ev_callV (v := .non) (n, ts) (ea_cons (ev_var rfl) (ea_cons (ev_var rfl) ea_nil)) (fun H6 e6 => ⟨⟨_, rfl, c, tvs, rfl, ex_t (e5.trans e6) hC, paired_imp (fun _ _ z => z.ex (e5.trans e6)) hT⟩, mok.low⟩) (fun _ _ p => p)) fun H6 e6 => ?_
      refine s_ret (ev_if (b := true) ?_ (fun _ => ev_c) (fun hb => by cases hb)) fun H7 e7 => q _ H7 ((e5.trans e6).trans e7) rfl
      exact fun H7 e7 Q q => ⟨_, rfl, rfl, _, rfl, q H7 (Ex.refl H7)⟩
def sp_need_model (K : PySem.W.Frag) : Sp := spX (fun (p : List (Str × Nat) × Nat × List (List Nat)) vs H => (∃ u v, vs = [u, v] ∧ Sig K H u p.1 ∧ Mdl K H v p.2.1 p.2.2) ∧ SigOk p.1 ∧ MdlOk p.1 p.2.1 p.2.2) (fun _ v _ => v = .non)
theorem c_need_model (T : Txt mg) (D : Df K mg "need_model" s_need_model ["signature", "model"]) (c_model_wrong : Cl P w K mg base 6 "model_wrong" (sp_model_wrong K)) : Cl P w K mg base 7 "need_model" (sp_need_model K) := by
  refine cl_of (k := 6) D sc_need_model (fun vs H Q E h => ?_) (fun f cdv A outer s H vs Q E hr h => ?_)
  · obtain ⟨p, ⟨⟨u, v, rfl, _⟩, _⟩, _⟩ := h
    rfl
  · obtain ⟨p, ⟨⟨u, v, rfl, hG, hM⟩, sok, mok⟩, q⟩ := h
    refine ⟨_, (pss_one (ps_if (pt_cmpR op_notN (pe_cl c_model_wrong hr (by first | decide | omega) (by rfl) (pa_cons (pv 0) (pa_cons (pv 1) pa_nil))) pe_non (nomark _))
        (pss_one ps_never)
        pss_nil)), ?_⟩
    exact s_when (b := false) (et_is (et_isN (ev_callV (v := .non) p (ea_cons (ev_var rfl) (ea_cons (ev_var rfl) ea_nil)) (fun H1 e1 => ⟨⟨_, _, rfl, hG.ex e1, hM.ex e1⟩, sok, mok⟩) (fun _ _ p => p))) rfl) (fun hb => by cases hb) (fun _ H1 e1 => q _ H1 e1 rfl)
end
end K24
end
section
namespace K24
open PySem PySem.Spec PyProof.Rows L2 Evl Dw M20
/-! ### more mathematics -/
/-- the first i numbers met -/
def met (n : Nat) (o : List Nat) (i : Nat) : List Bool := (List.range n).map fun k => decide (o.idxOf k < i)
theorem met_0 (n : Nat) (o : List Nat) : met n o 0 = List.replicate n false := by
  unfold met
  rw [show (fun k => decide (o.idxOf k < 0)) = fun _ => false from funext fun k => decide_eq_false (Nat.not_lt_zero _), List.map_const', List.length_range]
theorem met_at {n : Nat} {o : List Nat} (h : Ord n o) {i : Nat} (hi : i < n) : (met n o i)[g o i]? = some false := by
  unfold met
  rw [List.getElem?_map, List.getElem?_range (h.low i hi)]
  show some (decide (o.idxOf (g o i) < i)) = some false
  rw [idx_of h hi, decide_eq_false (Nat.lt_irrefl _)]
theorem idx_is {n : Nat} {o : List Nat} (h : Ord n o) {k i : Nat} (hk : k < n) (e : o.idxOf k = i) : g o i = k := by
  have := g_bk h hk
  rw [bk, g_map (by rw [h.len]; exact hk), e] at this
  exact this
theorem met_set {n : Nat} {o : List Nat} (h : Ord n o) {i : Nat} (hi : i < n) : (met n o i).set (g o i) true = met n o (i + 1) := by
  apply List.ext_getElem?
  intro k
  have hl : (met n o i).length = n := by simp [met]
  rw [List.getElem?_set, hl]
  by_cases hk : k < n
  · have e2 : (met n o (i + 1))[k]? = some (decide (o.idxOf k < i + 1)) := by
      unfold met
      rw [List.getElem?_map, List.getElem?_range hk]
      rfl
    have e1 : (met n o i)[k]? = some (decide (o.idxOf k < i)) := by
      unfold met
      rw [List.getElem?_map, List.getElem?_range hk]
      rfl
    rw [e2]
    by_cases e : g o i = k
    · rw [if_pos e, if_pos (by rw [e]; exact hk), ← e, idx_of h hi, decide_eq_true (Nat.lt_succ_self _)]
    · rw [if_neg e, e1]
      have ne : o.idxOf k ≠ i := fun z => e (idx_is h hk z)
      by_cases q : o.idxOf k < i
      · rw [decide_eq_true q, decide_eq_true (Nat.lt_succ_of_lt q)]
      · rw [decide_eq_false q, decide_eq_false (by omega)]
  · rw [List.getElem?_eq_none_iff.mpr (show (met n o (i + 1)).length ≤ k by simp [met]; omega)]
    have := h.low i hi
    rw [if_neg (by omega), List.getElem?_eq_none_iff.mpr (by rw [hl]; omega)]
/-- the first i numbers called back -/
def bks (n : Nat) (o : List Nat) (i : Nat) : List Nat := (List.range n).map fun k => if o.idxOf k < i then o.idxOf k else 0
theorem bks_0 (n : Nat) (o : List Nat) : bks n o 0 = List.replicate n 0 := by
  unfold bks
  rw [show (fun k => if o.idxOf k < 0 then o.idxOf k else 0) = fun _ => 0 from funext fun k => if_neg (Nat.not_lt_zero _), List.map_const', List.length_range]
theorem bks_len (n : Nat) (o : List Nat) (i : Nat) : (bks n o i).length = n := by simp [bks]
theorem bks_set {n : Nat} {o : List Nat} (h : Ord n o) {i : Nat} (hi : i < n) : (bks n o i).set (g o i) i = bks n o (i + 1) := by
  apply List.ext_getElem?
  intro k
  have hl : (bks n o i).length = n := bks_len n o i
  rw [List.getElem?_set, hl]
  by_cases hk : k < n
  · have e2 : (bks n o (i + 1))[k]? = some (if o.idxOf k < i + 1 then o.idxOf k else 0) := by
      unfold bks
      rw [List.getElem?_map, List.getElem?_range hk]
      rfl
    have e1 : (bks n o i)[k]? = some (if o.idxOf k < i then o.idxOf k else 0) := by
      unfold bks
      rw [List.getElem?_map, List.getElem?_range hk]
      rfl
    rw [e2]
    by_cases e : g o i = k
    · rw [if_pos e, if_pos (by rw [e]; exact hk), ← e, idx_of h hi, if_pos (Nat.lt_succ_self _)]
    · rw [if_neg e, e1]
      have ne : o.idxOf k ≠ i := fun z => e (idx_is h hk z)
      by_cases q : o.idxOf k < i
      · rw [if_pos q, if_pos (Nat.lt_succ_of_lt q)]
      · rw [if_neg q, if_neg (by omega)]
  · rw [List.getElem?_eq_none_iff.mpr (show (bks n o (i + 1)).length ≤ k by rw [bks_len]; omega)]
    have := h.low i hi
    rw [if_neg (by omega), List.getElem?_eq_none_iff.mpr (by rw [hl]; omega)]
theorem bks_all {n : Nat} {o : List Nat} (h : Ord n o) : bks n o n = bk o := by
  unfold bks bk
  rw [h.len]
  apply List.map_congr_left
  intro k hk
  have hk' := List.mem_range.mp hk
  rw [if_pos (by rw [← h.len]; exact List.idxOf_lt_length_of_mem (hits n o h k hk'))]
theorem flat_range {α : Type} (m : Nat) (hm : 0 < m) (f : Nat → Nat → α) : ∀ n, ((List.range n).flatMap fun i => (List.range m).map (f i)) = (List.range (n * m)).map fun s => f (s / m) (s % m)
  | 0 => by rw [Nat.zero_mul]; rfl
  | n + 1 => by
    rw [List.range_succ, List.flatMap_append, flat_range m hm f n, List.flatMap_singleton, Nat.add_mul, Nat.one_mul, List.range_add, List.map_append, List.map_map]
    congr 1
    apply List.map_congr_left
    intro k hk
    have hk' := List.mem_range.mp hk
    show f n k = f ((n * m + k) / m) ((n * m + k) % m)
    rw [Nat.add_comm (n * m) k, Nat.add_mul_div_right _ _ hm, Nat.div_eq_of_lt hk', Nat.zero_add, Nat.add_mul_mod_self_right, Nat.mod_eq_of_lt hk']
theorem vi_get {l : List Nat} {k : Nat} (h : k < l.length) : (l.map vi)[k]? = some (vi (g l k)) := by
  rw [List.getElem?_map, g_eq h]
  rfl
section
variable {P : Program} {w : World} {K : PySem.W.Frag} {mg : Str → Option Value} {base : Heap}
/-! ### orders -/
def sp_is_order (K : PySem.W.Frag) : Sp := spX (fun (p : Nat × List Nat) vs H => (∃ v, vs = [v, vi p.1] ∧ Nats K H v p.2) ∧ Ord p.1 p.2 ∧ p.1 ≤ 6) (fun _ v _ => v = .bl true)
theorem c_are_unlike_below (T : Txt mg) (D : Df K mg "are_unlike_below" s_are_unlike_below ["things", "size"]) (c_is_below : Cl P w K mg base 2 "is_below" sp_is_below) : Cl P w K mg base 3 "are_unlike_below" (sp_is_order K) := by
  refine cl_of (k := 2) D sc_are_unlike_below (fun vs H Q E h => ?_) (fun f cdv A outer s H vs Q E hr h => ?_)
  · obtain ⟨p, ⟨⟨v, rfl, _⟩, _⟩, _⟩ := h
    rfl
  · obtain ⟨⟨n, o⟩, ⟨⟨v, rfl, a, rfl, hS⟩, ord, n6⟩, q⟩ := h
    refine ⟨_, (pss_cons (ps_set (i := 2) sc_are_unlike_below.nd rfl (.inl rfl) (pe_op op_rep (pe_lst (pa_cons pe_bl pa_nil)) (pv 1)))
      (pss_cons (ps_for PassesOwn.never (by rfl) (pi_tup (pv 0)) (pg_name (i := 3) sc_are_unlike_below.nd rfl (.inl rfl))
        (pss_cons (ps_if (PW.pt (pw_or (pt_not (pt_val (pe_cl c_is_below hr (by first | decide | omega) (by rfl) (pa_cons (pv 3) (pa_cons (pv 1) pa_nil))))) (pw_or1 (pt_val (pe_ix ix_list (pv 2) (pv 3) (fun _ _ => rfl))))))
          (pss_one (ps_ret pe_bl))
          pss_nil)
        (pss_one (ps_asg pe_bl (pg_sub (pv 2) (pv 3) set_list)))))
      (pss_one (ps_ret pe_bl)))), ?_⟩
    have n6' : n ≤ 6 := n6
    have ln : o.length = n := ord.len
    have lo : (o.map vi).length = n := by rw [List.length_map, ln]
    refine q_asgL (el_rep (el_lst (ea_cons ev_c ea_nil) (by decide)) (ev_var rfl) (by show 1 * n ≤ _; omega) (by omega)) fun m H2 nm e2 hm => ?_
    rw [rep1] at hm
    have nH : H m = none := nm
    refine q_forT (ev_var rfl) (ex_t e2 hS) (fun i σ H' => Ex H H' ∧ H' m = some (.lst ((met n o i).map V.bl)) ∧ ∃ y, σ = [some (.ref a), some (vi n), some (.ref m), y]) (fun H3 e3 => ⟨e2.trans e3, by rw [met_0, List.map_replicate]; exact e3 _ _ hm, none, rfl⟩) (fun i σ H' _ ⟨e, _⟩ => ex_t e hS) (fun i x σ H3 hx ⟨e3, hm3, y, hσ⟩ => ?_) (fun σ H3 ⟨e3, _, y, hσ⟩ => ?_)
    · subst hσ
      have hi : i < n := by rw [← lo]; exact (List.getElem?_eq_some_iff.mp hx).1
      have ex : x = vi (g o i) := by
        rw [vi_get (by rw [ln]; exact hi)] at hx
        exact (Option.some.inj hx).symm
      subst ex
      have low : g o i < n := ord.low i hi
      have ml : ((met n o i).map V.bl).length = n := by simp [met]
      have at0 : ((met n o i).map V.bl)[g o i]? = some (.bl false) := by rw [List.getElem?_map, met_at ord hi]; rfl
      refine q_when (b := false) (et_is (et_or (et_not (et_val (ev_callV (v := .bl true) (((g o i : Nat) : Int), (n : Int)) (ea_cons (ev_var rfl) (ea_cons (ev_var rfl) ea_nil)) (fun _ _ => ⟨rfl, by show (0 : Int) ≤ ((g o i : Nat) : Int); omega, by show ((g o i : Nat) : Int) < (n : Int); omega⟩) (fun _ _ p => p)))) (fun _ => et_val (ev_op (ev_var rfl) (ev_var rfl) (rv_ixL (sq_of hm3) (atI_vi at0))))) rfl) (fun hb => by cases hb) (fun _ H4 e4 => ?_)
      refine s_setL (e4 _ _ hm3) ev_c (ev_var rfl) (ev_var rfl) (by rw [ml]; exact low) (fun H5 e5 => ⟨((e3.trans e4).trans e5).mut nH, ?_, _, rfl⟩)
      rw [upd_same, ← met_set ord hi, List.map_set]
    · subst hσ
      exact s_ret ev_c fun H4 e4 => q _ H4 (e3.trans e4) rfl
theorem c_is_order (T : Txt mg) (D : Df K mg "is_order" s_is_order ["thing", "size"]) (c_are_unlike_below : Cl P w K mg base 3 "are_unlike_below" (sp_is_order K)) : Cl P w K mg base 4 "is_order" (sp_is_order K) := by
  refine cl_of (k := 3) D sc_is_order (fun vs H Q E h => ?_) (fun f cdv A outer s H vs Q E hr h => ?_)
  · obtain ⟨p, ⟨⟨v, rfl, _⟩, _⟩, _⟩ := h
    rfl
  · obtain ⟨⟨n, o⟩, ⟨⟨v, rfl, a, rfl, hS⟩, ord, n6⟩, q⟩ := h
    refine ⟨_, (pss_one (ps_ret (pe_and (pe_callB call_isi (by rfl) T.z_isinstance (by decide +kernel) (pa_cons (pv 0) (pa_cons (pe_ty "tuple" (by rfl) T.z_tuple (by decide +kernel)) pa_nil))) (pe_and (pe_cmpR op_eq (pe_callB call_len_seq (by rfl) T.z_len PySem.boot_len (pa_cons (pv 0) pa_nil)) (pv 1) (nomark _)) (pe_one (pe_cl c_are_unlike_below hr (by first | decide | omega) (by rfl) (pa_cons (pv 0) (pa_cons (pv 1) pa_nil)))))))), ?_⟩
    have n6' : n ≤ 6 := n6
    have ln : o.length = n := ord.len
    have lo : (o.map vi).length = n := by rw [List.length_map, ln]
    refine s_ret (v := .bl (true && (decide (V.int ((o.map vi).length : Int) = vi n) && true))) (ev_andV (a := true) (ev_isi (ev_var rfl) ev_c (.ty _) (fun _ e => tyx_tup (ex_t e hS)) kit_tt) (fun _ => ev_andV (ev_op (ev_lenT (ev_var rfl) hS) (ev_var rfl) (rv_eq rfl)) (fun _ => ev_callV (v := .bl true) (n, o) (ea_cons (ev_var rfl) (ea_cons (ev_var rfl) ea_nil)) (fun H1 e1 => ⟨⟨_, rfl, a, rfl, ex_t e1 hS⟩, ord, n6⟩) (fun _ _ p => p)))) fun H1 e1 => q _ H1 e1 ?_
    show V.bl (true && (decide (V.int ((o.map vi).length : Int) = vi n) && true)) = V.bl true
    rw [lo, decide_eq_true rfl]
    rfl
def sp_turned_back (K : PySem.W.Frag) : Sp := spX (fun (p : Nat × List Nat) vs H => (∃ v, vs = [v] ∧ Nats K H v p.2) ∧ Ord p.1 p.2 ∧ p.1 ≤ 6) (fun p v H => Nats K H v (bk p.2))
theorem c_turned_back (T : Txt mg) (D : Df K mg "turned_back" s_turned_back ["order"]) : Cl P w K mg base 1 "turned_back" (sp_turned_back K) := by
  refine cl_of (k := 0) D sc_turned_back (fun vs H Q E h => ?_) (fun f cdv A outer s H vs Q E hr h => ?_)
  · obtain ⟨p, ⟨⟨v, rfl, _⟩, _⟩, _⟩ := h
    rfl
  · obtain ⟨⟨n, o⟩, ⟨⟨v, rfl, a, rfl, hS⟩, ord, n6⟩, q⟩ := h
    refine ⟨_, (pss_cons (ps_set (i := 1) sc_turned_back.nd rfl (.inl rfl) (pe_op op_rep (pe_lst (pa_cons pe_int pa_nil)) (pe_callB call_len_seq (by rfl) T.z_len PySem.boot_len (pa_cons (pv 0) pa_nil))))
      (pss_cons (ps_for PassesOwn.never (by rfl) (pi_enumT (by rfl) T.z_enumerate (pa_cons (pv 0) pa_nil)) (pg_tup (by rfl) (pgs_cons (pg_name (i := 2) sc_turned_back.nd rfl (.inl rfl)) (pgs_cons (pg_name (i := 3) sc_turned_back.nd rfl (.inl rfl)) pgs_nil)))
        (pss_one (ps_asg (pv 2) (pg_sub (pv 1) (pv 3) set_list))))
      (pss_one (ps_ret (pe_callTy call_tuple_of (by rfl) T.z_tuple (by decide +kernel) (pa_cons (pv 1) pa_nil)))))), ?_⟩
    have n6' : n ≤ 6 := n6
    have ln : o.length = n := ord.len
    have lo : (o.map vi).length = n := by rw [List.length_map, ln]
    have len : Ev (tCB (rLenS K) (tCons (tVar 0) tNil)) [some (.ref a), none, none, none] H (vi n) := by
      have := ev_lenT (σ := [some (.ref a), none, none, none]) (ta := tVar 0) (ev_var rfl) hS
      rw [lo] at this
      exact this
    refine q_asgL (el_rep (el_lst (ea_cons ev_c ea_nil) (by decide)) len (by show 1 * n ≤ _; omega) (by omega)) fun m H2 nm e2 hm => ?_
    rw [rep1] at hm
    refine q_enumT (ea_cons (ev_var rfl) ea_nil) (ex_t e2 hS) (fun i σ H' => Ex H H' ∧ H' m = some (.lst ((bks n o i).map vi)) ∧ ∃ y2 y3, σ = [some (.ref a), some (.ref m), y2, y3]) (fun H3 e3 => ⟨e2.trans e3, by rw [bks_0, List.map_replicate]; exact e3 _ _ hm, none, none, rfl⟩) (fun i σ H' _ ⟨e, _⟩ => ex_t e hS) (fun i x σ H3 H4 hx ⟨e3, hm3, y2, y3, hσ⟩ e4 => ?_) (fun σ H3 ⟨e3, hm3, y2, y3, hσ⟩ => ?_)
    · subst hσ
      have hi : i < n := by rw [← lo]; exact (List.getElem?_eq_some_iff.mp hx).1
      have ex : x = vi (g o i) := by
        rw [vi_get (by rw [ln]; exact hi)] at hx
        exact (Option.some.inj hx).symm
      subst ex
      have low : g o i < n := ord.low i hi
      refine s_setL (e4 _ _ hm3) (ev_var rfl) (ev_var rfl) (ev_var rfl) (by rw [List.length_map, bks_len]; exact low) (fun H5 e5 => ⟨((e3.trans e4).trans e5).mut nm, ?_, _, _, rfl⟩)
      rw [upd_same, ← bks_set ord hi, List.map_set]
    · subst hσ
      rw [lo, bks_all ord] at hm3
      exact s_retP (ep_nats (K := K) (eu_tupL (ev_var rfl) (sq_of hm3)) rfl) fun v H4 e4 p => q _ H4 (e3.trans e4) p
/-! ### tables renamed -/
def sp_renamed_table (K : PySem.W.Frag) : Sp := spX (fun (p : Nat × Nat × List Nat × List Nat) vs H => (∃ v u, vs = [vi p.1, vi p.2.1, v, u] ∧ Nats K H v p.2.2.1 ∧ Nats K H u p.2.2.2) ∧ Tab p.1 p.2.1 p.2.2.1 ∧ Ord p.1 p.2.2.2 ∧ 1 ≤ p.1 ∧ p.1 ≤ 6 ∧ p.2.1 ≤ 2)
  (fun p v H => Nats K H v (ren p.1 p.2.1 p.2.2.2 p.2.2.1))
theorem c_renamed_table (T : Txt mg) (D : Df K mg "renamed_table" s_renamed_table ["size", "places", "table", "order"]) (c_turned_back : Cl P w K mg base 1 "turned_back" (sp_turned_back K)) : Cl P w K mg base 2 "renamed_table" (sp_renamed_table K) := by
  refine cl_of (k := 1) D sc_renamed_table (fun vs H Q E h => ?_) (fun f cdv A outer s H vs Q E hr h => ?_)
  · obtain ⟨p, ⟨⟨v, u, rfl, _⟩, _⟩, _⟩ := h
    rfl
  · obtain ⟨⟨n, p, t, o⟩, ⟨⟨v, u, rfl, hV, hU⟩, tab, ord, n1, n6, p2⟩, q⟩ := h
    refine ⟨_, (pss_cons (ps_set (i := 4) sc_renamed_table.nd rfl (.inr rfl) (pe_cl c_turned_back hr (by first | decide | omega) (by rfl) (pa_cons (pv 3) pa_nil)))
      (pss_cons (ps_if (pt_cmpR op_eq (pv 1) pe_int (nomark _))
        (pss_one (ps_ret (pe_tup (pa_cons (pe_ix ix_tup (pv 3) (pe_ix ix_tup (pv 2) pe_int (fun _ _ => rfl)) (fun _ _ => rfl)) pa_nil))))
        pss_nil)
      (pss_cons (ps_if (pt_cmpR op_eq (pv 1) pe_int (nomark _))
        (pss_one (ps_ret (pe_callTy call_tuple_of (by rfl) T.z_tuple (by decide +kernel) (pa_cons (pe_lc (own := [("number", 5)]) (g := (gName 5)) (by rfl) sc_renamed_table.nd (pi_tup (pv 4)) (blkOk_by (own := [("number", 5)]) (N := ["size", "places", "table", "order", "back", "number", "one", "other"]) (sc := (defScope s_renamed_table)) (by decide +kernel)) (fun _ _ _ _ _ => (pg_name (i := 5) sc_renamed_table.nd rfl (.inl rfl))) (fun _ _ _ _ _ => pts_nil) (fun _ _ _ _ _ => (pe_ix (ix_tupK K) (pv 3) (pe_ix (ix_tupK K) (pv 2) (pv 5) (fun _ _ => rfl)) (fun _ _ => rfl)))) pa_nil))))
        pss_nil)
      (pss_one (ps_ret (pe_callTy call_tuple_of (by rfl) T.z_tuple (by decide +kernel) (pa_cons (pe_lc2 (own := [("one", 6), ("other", 7)]) (g := (gName 6)) (g1 := (gName 7)) (vs1 := [7]) (by rfl) sc_renamed_table.nd (pi_tup (pv 4)) (blkOk_by (own := [("one", 6), ("other", 7)]) (N := ["size", "places", "table", "order", "back", "number", "one", "other"]) (sc := (defScope s_renamed_table)) (by decide +kernel)) (by decide) (fun _ _ _ _ _ => (pg_name (i := 6) sc_renamed_table.nd rfl (.inl rfl))) (fun _ _ _ _ _ => pts_nil) (fun _ _ _ _ _ => (pi_tupK K (pv 4))) (fun _ _ _ _ _ => (pg_name (i := 7) sc_renamed_table.nd rfl (.inl rfl))) (fun _ _ _ _ _ => pts_nil) (fun _ _ _ _ _ => (pe_ix (ix_tupK K) (pv 3) (pe_ix (ix_tupK K) (pv 2) (pe_op op_add (pe_op op_mul (pv 6) (pv 0)) (pv 7)) (fun _ _ => rfl)) (fun _ _ => rfl)))) pa_nil))))))), ?_⟩
    replace tab : Tab n p t := tab
    replace ord : Ord n o := ord
    replace n1 : 1 ≤ n := n1
    replace n6 : n ≤ 6 := n6
    replace p2 : p ≤ 2 := p2
    obtain ⟨a, rfl, hA⟩ := id hV
    obtain ⟨b, rfl, hB⟩ := id hU
    have low : ∀ k, k < n ^ p → g t k < n := tab.low
    have pick : ∀ {te : TE} {σ : L2.St} {H1 : Hp} {k : Nat}, Ex H H1 → σ[2]? = some (some (.ref a)) → σ[3]? = some (some (.ref b)) → k < n ^ p → Ev te σ H1 (vi k) → Ev (tOp (rIxT K) (tVar 3) (tOp (rIxT K) (tVar 2) te)) σ H1 (vi (g o (g t k))) := by
      intro te σ H1 k e h2 h3 hk hte
      exact ev_op (ev_var h3) (ev_op (ev_var h2) hte (rv_ixT (ex_t e hA) (atI_vi (vi_get (by rw [tab.len]; exact hk))))) (rv_ixT (ex_t e hB) (atI_vi (vi_get (by rw [ord.len]; exact low k hk))))
    refine q_asgP (ep_call (n, o) (ea_cons (ev_var rfl) ea_nil) (fun H1 e1 => ⟨⟨_, rfl, hU.ex e1⟩, ord, n6⟩)) fun v H1 e1 hv => ?_
    obtain ⟨c, rfl, hC⟩ := hv
    replace hC : SqT K H1 c ((bk o).map vi) := hC
    have bl : (bk o).length = n := by rw [bk_len, ord.len]
    have bm : ((bk o).map vi).length = n := by rw [List.length_map, bl]
    refine q_when (et_test (ev_op (ev_var rfl) ev_c (rv_eq rfl))) (fun hb H2 e2 => ?_) (fun hb H2 e2 => ?_)
    · have p0 : p = 0 := by
        have z : (p : Int) = 0 := V.int.inj (of_decide_eq_true hb)
        omega
      subst p0
      refine s_retP (ep_nats (K := K) (ns := ren n 0 o t) (eu_tup (ea_cons (pick (k := 0) (e1.trans e2) rfl rfl (by simp) ev_c) ea_nil) (by show 1 ≤ 100000; decide)) rfl) fun v H3 e3 hv => q _ H3 ((e1.trans e2).trans e3) hv
    · have p0 : p ≠ 0 := fun z => by
        subst z
        exact absurd rfl (of_decide_eq_false hb)
      refine q_when (et_test (ev_op (ev_var rfl) ev_c (rv_eq rfl))) (fun hb H3 e3 => ?_) (fun hb H3 e3 => ?_)
      · have p1 : p = 1 := by
          have z : (p : Int) = 1 := V.int.inj (of_decide_eq_true hb)
          omega
        subst p1
        have e03 : Ex H H3 := (e1.trans e2).trans e3
        refine s_retP (ep_nats (K := K) (ns := ren n 1 o t) (eu_tupN (el_lcT (K := K) (ev_var rfl) (ex_t (e2.trans e3) hC) (fun i => vi (g o (g t (g (bk o) i)))) (by omega) (fun _ => rfl) (fun i x H4 e4 hx => ?_))) ?_) fun v H4 e4 hv => q _ H4 (e03.trans e4) hv
        · have hi : i < n := by rw [← bm]; exact (List.getElem?_eq_some_iff.mp hx).1
          rw [vi_get (by rw [bl]; exact hi)] at hx
          have ex := Option.some.inj hx
          subst ex
          exact pick (e03.trans e4) rfl rfl (by rw [Nat.pow_one]; exact bk_low ord hi) (ev_var rfl)
        · rw [bm]
          unfold ren
          rw [Nat.pow_one, List.map_map]
          rfl
      · have p2' : p = 2 := by
          have : p ≠ 1 := fun z => by
            subst z
            exact absurd rfl (of_decide_eq_false hb)
          omega
        subst p2'
        have e03 : Ex H H3 := (e1.trans e2).trans e3
        refine s_retP (ep_nats (K := K) (ns := ren n 2 o t) (eu_tupN (el_lc2T (K := K) (ev_var rfl) (ex_t (e2.trans e3) hC) (fun x H4 e4 => ev_var rfl) (ex_t (e2.trans e3) hC) (fun i k => vi (g o (g t (g (bk o) i * n + g (bk o) k)))) (by omega) (by omega) (fun _ => rfl) (fun _ _ => rfl) (fun i x k y H4 e4 hx hy => ?_))) ?_) fun v H4 e4 hv => q _ H4 (e03.trans e4) hv
        · have hi : i < n := by rw [← bm]; exact (List.getElem?_eq_some_iff.mp hx).1
          have hk : k < n := by rw [← bm]; exact (List.getElem?_eq_some_iff.mp hy).1
          rw [vi_get (by rw [bl]; exact hi)] at hx
          rw [vi_get (by rw [bl]; exact hk)] at hy
          have ex := Option.some.inj hx
          have ey := Option.some.inj hy
          subst ex
          subst ey
          have bi := bk_low ord hi
          have bk' := bk_low ord hk
          have sum : Ev (tOp (rI0 fun i j => .int (i + j)) (tOp (rI CMul fun i j => .int (i * j)) (tVar 6) (tVar 0)) (tVar 7)) [some (vi n), some (vi 2), some (.ref a), some (.ref b), some (.ref c), none, some (vi (g (bk o) i)), some (vi (g (bk o) k))] H4 (vi (g (bk o) i * n + g (bk o) k)) := by
            have := ev_op (r := rI0 fun i j => .int (i + j)) (H := H4) (σ := [some (vi n), some (vi 2), some (.ref a), some (.ref b), some (.ref c), none, some (vi (g (bk o) i)), some (vi (g (bk o) k))]) (ev_op (r := rI CMul fun i j => .int (i * j)) (ta := tVar 6) (tb := tVar 0) (ev_var rfl) (ev_var rfl) (rv_I (Or.inr ⟨by omega, by omega⟩))) (tb := tVar 7) (ev_var rfl) rv_I0
            refine ev_is this ?_
            show V.int (((g (bk o) i : Nat) : Int) * (n : Int) + ((g (bk o) k : Nat) : Int)) = V.int ((g (bk o) i * n + g (bk o) k : Nat) : Int)
            rw [Int.natCast_add, Int.natCast_mul]
          exact pick (e03.trans e4) rfl rfl (by rw [Nat.pow_two]; exact mul_lt bi bk') sum
        · rw [bm, flat_range n n1]
          unfold ren
          rw [Nat.pow_two, List.map_map]
          rfl
end
end K24
end
section
namespace K24
open PySem PySem.Spec PyProof.Rows L2 Evl RZ Dw M20
/-- all tables renamed -/
def rens (n : Nat) (o : List Nat) (sg : List (Str × Nat)) (ts : List (List Nat)) : List (List Nat) := List.zipWith (fun p t => ren n p.2 o t) sg ts
theorem rens_len {n : Nat} {o : List Nat} {sg : List (Str × Nat)} {ts : List (List Nat)} (h : ts.length = sg.length) : (rens n o sg ts).length = sg.length := by
  unfold rens
  rw [List.length_zipWith, h, Nat.min_self]
theorem rens_at {n : Nat} {o : List Nat} {sg : List (Str × Nat)} {ts : List (List Nat)} {i : Nat} (h1 : i < sg.length) (h2 : i < ts.length) : (rens n o sg ts)[i]? = some (ren n sg[i].2 o ts[i]) := by
  unfold rens
  rw [List.getElem?_zipWith, List.getElem?_eq_getElem h1, List.getElem?_eq_getElem h2]
section
variable {P : Program} {w : World} {K : PySem.W.Frag} {mg : Str → Option Value} {base : Heap}
def sp_renamed_tables (K : PySem.W.Frag) : Sp := spX (fun (p : List (Str × Nat) × Nat × List (List Nat) × List Nat) vs H => (∃ u v x, vs = [u, vi p.2.1, v, x] ∧ Sig K H u p.1 ∧ Tabs K H v p.2.2.1 ∧ Nats K H x p.2.2.2) ∧ SigOk p.1 ∧ MdlOk p.1 p.2.1 p.2.2.1 ∧ Ord p.2.1 p.2.2.2)
  (fun p v H => Tabs K H v (rens p.2.1 p.2.2.2 p.1 p.2.2.1))
theorem c_renamed_tables (T : Txt mg) (D : Df K mg "renamed_tables" s_renamed_tables ["signature", "size", "tables", "order"]) (c_renamed_table : Cl P w K mg base 2 "renamed_table" (sp_renamed_table K)) : Cl P w K mg base 3 "renamed_tables" (sp_renamed_tables K) := by
  refine cl_of (k := 2) D sc_renamed_tables (fun vs H Q E h => ?_) (fun f cdv A outer s H vs Q E hr h => ?_)
  · obtain ⟨p, ⟨⟨u, v, x, rfl, _⟩, _⟩, _⟩ := h
    rfl
  · obtain ⟨⟨sg, n, ts, o⟩, ⟨⟨u, v, x, rfl, hG, hT, hO⟩, sok, mok, ord⟩, q⟩ := h
    refine ⟨_, (pss_cons (ps_set (i := 4) sc_renamed_tables.nd rfl (.inl rfl) (pe_lst pa_nil))
      (pss_cons (ps_for PassesOwn.never (by rfl) (pi_zipA (by rfl) T.z_zip (pa_cons (pv 0) (pa_cons (pv 2) pa_nil))) (pg_tup (by rfl) (pgs_cons (pg_tup (by rfl) (pgs_cons (pg_name (i := 5) sc_renamed_tables.nd rfl (.inl rfl)) (pgs_cons (pg_name (i := 6) sc_renamed_tables.nd rfl (.inl rfl)) pgs_nil))) (pgs_cons (pg_name (i := 7) sc_renamed_tables.nd rfl (.inl rfl)) pgs_nil)))
        (pss_one (ps_expr (pe_bm PySem.F.plainAttrs_list PySem.F.slot_list_append PySem.F.type_list_append mt_append (pv 4) (pa_cons (pe_cl c_renamed_table hr (by first | decide | omega) (by rfl) (pa_cons (pv 1) (pa_cons (pv 6) (pa_cons (pv 7) (pa_cons (pv 3) pa_nil))))) pa_nil)))))
      (pss_one (ps_ret (pe_callTy call_tuple_of (by rfl) T.z_tuple (by decide +kernel) (pa_cons (pv 4) pa_nil)))))), ?_⟩
    replace sok : SigOk sg := sok
    replace mok : MdlOk sg n ts := mok
    replace ord : Ord n o := ord
    obtain ⟨a, us, rfl, hS, hP⟩ := id hG
    obtain ⟨b, tvs, rfl, hB, hR⟩ := id hT
    replace hP : Paired (Deed K H) us sg := hP
    replace hR : Paired (Nats K H) tvs ts := hR
    have lS : us.length = sg.length := paired_len hP
    have lT : tvs.length = ts.length := paired_len hR
    have lM : ts.length = sg.length := mok.len
    refine q_asgL (el_lst ea_nil (Nat.zero_le _)) fun m H1 nm e1 hm => ?_
    refine q_zipT (ea_cons (ev_var rfl) (ea_cons (ev_var rfl) ea_nil)) (ex_t e1 hS) (ex_t e1 hB) (by rw [lS, lT, lM]) (fun i σ H' => Ex H H' ∧ (∃ ws, H' m = some (.lst ws) ∧ Paired (Nats K H') ws ((rens n o sg ts).take i)) ∧ ∃ y5 y6 y7, σ = [some (.ref a), some (vi n), some (.ref b), some x, some (.ref m), y5, y6, y7])
      (fun H2 e2 => ⟨e1.trans e2, ⟨[], e2 _ _ hm, .nil⟩, none, none, none, rfl⟩) (fun i σ H' _ ⟨e, _⟩ => ⟨ex_t e hS, ex_t e hB⟩) (fun i d tv p σ H2 hd ht ⟨e2, ⟨ws, hws, pws⟩, y5, y6, y7, hσ⟩ np => ?_) (fun σ H2 ⟨e2, ⟨ws, hws, pws⟩, y5, y6, y7, hσ⟩ => ?_)
    · subst hσ
      have hi : i < sg.length := by rw [← lS]; exact (List.getElem?_eq_some_iff.mp hd).1
      have hi2 : i < ts.length := by rw [lM]; exact hi
      obtain ⟨d', ed', c, hc, dc⟩ := paired_get hP (List.getElem?_eq_getElem hi)
      have : d' = d := Option.some.inj (ed'.symm.trans hd)
      subst this
      subst hc
      obtain ⟨t', et', nt⟩ := paired_get hR (List.getElem?_eq_getElem hi2)
      have : t' = tv := Option.some.inj (et'.symm.trans ht)
      subst this
      have e3 : Ex H2 (upd H2 p (.tup [.ref c, t'])) := Ex.new np
      have e03 : Ex H (upd H2 p (.tup [.ref c, t'])) := e2.trans e3
      -- (name, places), table
      refine ⟨p, _, rfl, st_of upd_same, rfl, _, _, rfl, ⟨c, _, rfl, ex_t e03 dc, rfl, _, _, rfl, _, _, rfl, rfl, ?_⟩⟩
      refine ⟨_, _, rfl, rfl, ?_⟩
      refine s_appP (e3 _ _ hws) (ev_var rfl) (ep_call (n, sg[i].2, ts[i], o) (ea_cons (ev_var rfl) (ea_cons (ev_var rfl) (ea_cons (ev_var rfl) (ea_cons (ev_var rfl) ea_nil)))) (fun H4 e4 => ⟨⟨_, _, rfl, nt.ex (e03.trans e4), hO.ex (e03.trans e4)⟩, mok.tab i hi hi2, ord, mok.n1, mok.n6, sok.pl _ (List.getElem_mem hi)⟩)) ?_ (fun v H4 e4 hv => ?_)
      · have l1 := paired_len pws
        rw [List.length_take, rens_len lM] at l1
        have := sok.l4
        omega
      · have e04 : Ex H H4 := e03.trans e4
        have nH : H m = none := nm
        have hm4 : H4 m = some (.lst ws) := e4 _ _ (e3 _ _ hws)
        refine ⟨e04.mut nH, ⟨ws ++ [v], upd_same, ?_⟩, _, _, _, rfl⟩
        have et : ET K H4 (upd H4 m (.lst (ws ++ [v]))) := ET.refl.upd hm4
        rw [List.take_add_one, rens_at hi hi2]
        exact paired_snoc (Nats.et et hv) (paired_imp (fun _ _ z => Nats.et (ET.trans (Dw.Ex.et (e3.trans e4)) et) z) pws)
    · subst hσ
      have full : (rens n o sg ts).take us.length = rens n o sg ts := List.take_of_length_le (by rw [rens_len lM, lS]; exact Nat.le_refl _)
      rw [full] at pws
      refine eu_tupL (K := K) (ev_var rfl) (sq_of hws) H2 (Ex.refl _) _ fun p H3 np e3 hp => q _ H3 (e2.trans e3) ⟨p, ws, rfl, st_of hp, paired_imp (fun _ _ z => z.ex e3) pws⟩
def sp_renamed (K : PySem.W.Frag) : Sp := spX (fun (p : List (Str × Nat) × Nat × List (List Nat) × List Nat) vs H => (∃ u v x, vs = [u, v, x] ∧ Sig K H u p.1 ∧ Mdl K H v p.2.1 p.2.2.1 ∧ Nats K H x p.2.2.2) ∧ SigOk p.1 ∧ MdlOk p.1 p.2.1 p.2.2.1 ∧ Ord p.2.1 p.2.2.2)
  (fun p v H => Mdl K H v p.2.1 (rens p.2.1 p.2.2.2 p.1 p.2.2.1))
theorem c_renamed (T : Txt mg) (D : Df K mg "renamed" s_renamed ["signature", "model", "order"]) (c_need_model : Cl P w K mg base 7 "need_model" (sp_need_model K)) (c_is_order : Cl P w K mg base 4 "is_order" (sp_is_order K)) (c_renamed_tables : Cl P w K mg base 3 "renamed_tables" (sp_renamed_tables K)) : Cl P w K mg base 8 "renamed" (sp_renamed K) := by
  refine cl_of (k := 7) D sc_renamed (fun vs H Q E h => ?_) (fun f cdv A outer s H vs Q E hr h => ?_)
  · obtain ⟨p, ⟨⟨u, v, x, rfl, _⟩, _⟩, _⟩ := h
    rfl
  · obtain ⟨⟨sg, n, ts, o⟩, ⟨⟨u, v, x, rfl, hG, hM, hO⟩, sok, mok, ord⟩, q⟩ := h
    refine ⟨_, (pss_cons (ps_expr (pe_cl c_need_model hr (by first | decide | omega) (by rfl) (pa_cons (pv 0) (pa_cons (pv 1) pa_nil))))
      (pss_cons (ps_asg (pv 1) (pg_tup (by rfl) (pgs_cons (pg_name (i := 3) sc_renamed.nd rfl (.inl rfl)) (pgs_cons (pg_name (i := 4) sc_renamed.nd rfl (.inl rfl)) pgs_nil))))
      (pss_cons (ps_if (pt_not (pt_val (pe_cl c_is_order hr (by first | decide | omega) (by rfl) (pa_cons (pv 2) (pa_cons (pv 3) pa_nil)))))
        (pss_one ps_never)
        pss_nil)
      (pss_one (ps_ret (pe_tup (pa_cons (pv 3) (pa_cons (pe_cl c_renamed_tables hr (by first | decide | omega) (by rfl) (pa_cons (pv 0) (pa_cons (pv 3) (pa_cons (pv 4) (pa_cons (pv 2) pa_nil))))) pa_nil)))))))), ?_⟩
    replace sok : SigOk sg := sok
    replace mok : MdlOk sg n ts := mok
    replace ord : Ord n o := ord
    obtain ⟨b, tv, rfl, hB, hT⟩ := id hM
    replace hT : Tabs K H tv ts := hT
    refine q_drop (ev_callV (v := .non) (sg, n, ts) (ea_cons (ev_var rfl) (ea_cons (ev_var rfl) ea_nil)) (fun H1 e1 => ⟨⟨_, _, rfl, hG.ex e1, hM.ex e1⟩, sok, mok⟩) (fun _ _ p => p)) fun H1 e1 => ?_
    refine ⟨.ref b, rfl, b, _, rfl, ex_t e1 hB, rfl, _, _, rfl, _, _, rfl, rfl, ?_⟩
    refine q_when (b := false) (et_is (et_not (et_val (ev_callV (v := .bl true) (n, o) (ea_cons (ev_var rfl) (ea_cons (ev_var rfl) ea_nil)) (fun H2 e2 => ⟨⟨_, rfl, hO.ex (e1.trans e2)⟩, ord, mok.n6⟩) (fun _ _ p => p)))) rfl) (fun hb => by cases hb) (fun _ H2 e2 => ?_)
    have e02 : Ex H H2 := e1.trans e2
    refine s_retP (ep_tup (n := 2) (eap_cons (P := fun v _ => v = vi n) (ep_ev (ev_var rfl) (fun _ _ => rfl)) (eap_cons (ep_call (sg, n, ts, o) (ea_cons (ev_var rfl) (ea_cons (ev_var rfl) (ea_cons (ev_var rfl) (ea_cons (ev_var rfl) ea_nil)))) (fun H3 e3 => ⟨⟨_, _, _, rfl, hG.ex (e02.trans e3), hT.ex (e02.trans e3), hO.ex (e02.trans e3)⟩, sok, mok, ord⟩)) eap_nil (fun v H3 H4 e p => Tabs.ex e p)) (fun v _ _ _ p => p))
      (fun vs H3 ⟨v1, r1, h1, _, v2, r2, h2, _, h3⟩ => by subst h1 h2 h3; rfl) (by decide) (fun vs H3 H4 e ⟨v1, r1, h1, p1, v2, r2, h2, p2, h3⟩ => ⟨v1, r1, h1, p1, v2, r2, h2, Tabs.ex e p2, h3⟩)) fun v H3 e3 ⟨p, vs, hv, hp, v1, r1, h1, p1, v2, r2, h2, p2, h3⟩ => ?_
    subst hv h1 h2 h3 p1
    exact q _ H3 (e02.trans e3) ⟨p, v2, rfl, st_of hp, p2⟩
def FNats (H : Hp) (v : V) (ns : List Nat) : Prop := ∃ a ob, v = .ref a ∧ H a = some (.frz ob (.tup (ns.map vi))) ∧ ob.dict = none
theorem FNats.nats {H : Hp} {v : V} {ns : List Nat} (h : FNats H v ns) : Nats K H v ns := let ⟨a, ob, q, s, _⟩ := h; ⟨a, q, .inl (.inr ⟨ob, s⟩)⟩
theorem FNats.ex {H H' : Hp} {v : V} {ns : List Nat} (e : Ex H H') (h : FNats H v ns) : FNats H' v ns := let ⟨a, ob, q, s, d⟩ := h; ⟨a, ob, q, e _ _ s, d⟩
theorem ef_nats {σ : L2.St} {H : Hp} {te : TE} {xs : List V} {ns : List Nat} (h : EvL te σ H xs) (e : xs = ns.map vi) : EvP (tCB (rTupF K) (tCons te tNil)) σ H (fun v H' => FNats H' v ns) := fun H1 e1 Q q =>
  h H1 e1 _ fun p H2 np e2 hp => ⟨p, xs, rfl, sq_of hp, fun l o nl od => q _ _ (e2.trans (Ex.new nl)) ⟨l, o, rfl, by rw [upd_same, e], od⟩⟩
def sp_composed (K : PySem.W.Frag) : Sp := spX (fun (p : Nat × List Nat × List Nat) vs H => (∃ u v, vs = [u, v] ∧ Nats K H u p.2.1 ∧ Nats K H v p.2.2) ∧ Ord p.1 p.2.1 ∧ Ord p.1 p.2.2 ∧ p.1 ≤ 6) (fun p v H => FNats H v (cmp p.2.1 p.2.2))
theorem c_composed (T : Txt mg) (D : Df K mg "composed" s_composed ["one", "other"]) : Cl P w K mg base 1 "composed" (sp_composed K) := by
  refine cl_of (k := 0) D sc_composed (fun vs H Q E h => ?_) (fun f cdv A outer s H vs Q E hr h => ?_)
  · obtain ⟨p, ⟨⟨u, v, rfl, _⟩, _⟩, _⟩ := h
    rfl
  · obtain ⟨⟨n, o1, o2⟩, ⟨⟨u, v, rfl, ⟨a, rfl, hA⟩, b, rfl, hB⟩, r1, r2, n6⟩, q⟩ := h
    refine ⟨_, (pss_one (ps_ret (pe_callTy call_tupF (by rfl) T.z_tuple (by decide +kernel) (pa_cons (pe_lc (own := [("called", 2)]) (g := (gName 2)) (by rfl) sc_composed.nd (pi_tup (pv 0)) (blkOk_by (own := [("called", 2)]) (N := ["one", "other", "called"]) (sc := (defScope s_composed)) (by decide +kernel)) (fun _ _ _ _ _ => (pg_name (i := 2) sc_composed.nd rfl (.inl rfl))) (fun _ _ _ _ _ => pts_nil) (fun _ _ _ _ _ => (pe_ix (ix_tupK K) (pv 1) (pv 2) (fun _ _ => rfl)))) pa_nil)))), ?_⟩
    replace r1 : Ord n o1 := r1
    replace r2 : Ord n o2 := r2
    replace n6 : n ≤ 6 := n6
    replace hA : SqT K H a (o1.map vi) := hA
    replace hB : SqT K H b (o2.map vi) := hB
    have l1 : (o1.map vi).length = n := by rw [List.length_map, r1.len]
    refine s_retP (ef_nats (K := K) (ns := cmp o1 o2) ((el_lcT (K := K) (ev_var rfl) hA (fun i => vi (g o2 (g o1 i))) (by omega) (fun _ => rfl) (fun i x H1 e1 hx => ?_))) ?_) fun v H1 e1 hv => q _ H1 e1 hv
    · have hi : i < n := by rw [← l1]; exact (List.getElem?_eq_some_iff.mp hx).1
      rw [vi_get (by rw [r1.len]; exact hi)] at hx
      have ex := Option.some.inj hx
      subst ex
      exact ev_op (ev_var rfl) (ev_var rfl) (rv_ixT (ex_t e1 hB) (atI_vi (vi_get (by rw [r2.len]; exact r1.low i hi))))
    · rw [l1]
      apply List.ext_getElem?
      intro i
      by_cases hi : i < n
      · have lc : i < (cmp o1 o2).length := by unfold cmp; rw [List.length_map, r1.len]; exact hi
        rw [List.getElem?_map, List.getElem?_range hi, vi_get lc, cmp_g r1 hi]
        rfl
      · rw [List.getElem?_eq_none_iff.mpr (by simp; omega), List.getElem?_eq_none_iff.mpr (by simp [cmp, r1.len]; omega)]
theorem c_renamed_by (T : Txt mg) (D : Df K mg "renamed_by" s_renamed_by ["one", "other"]) (c_is_order : Cl P w K mg base 4 "is_order" (sp_is_order K)) (c_composed : Cl P w K mg base 1 "composed" (sp_composed K)) : Cl P w K mg base 5 "renamed_by" (sp_composed K) := by
  refine cl_of (k := 4) D sc_renamed_by (fun vs H Q E h => ?_) (fun f cdv A outer s H vs Q E hr h => ?_)
  · obtain ⟨p, ⟨⟨u, v, rfl, _⟩, _⟩, _⟩ := h
    rfl
  · obtain ⟨⟨n, o1, o2⟩, ⟨⟨u, v, rfl, hU, hV⟩, r1, r2, n6⟩, q⟩ := h
    refine ⟨_, (pss_cons (ps_if (PW.pt (pw_or (pt_not (pt_val (pe_callB call_isi (by rfl) T.z_isinstance (by decide +kernel) (pa_cons (pv 0) (pa_cons (pe_ty "tuple" (by rfl) T.z_tuple (by decide +kernel)) pa_nil))))) (pw_or1 (pt_not (pt_val (pe_cl c_is_order hr (by first | decide | omega) (by rfl) (pa_cons (pv 0) (pa_cons (pe_callB call_len_seq (by rfl) T.z_len PySem.boot_len (pa_cons (pv 0) pa_nil)) pa_nil))))))))
        (pss_one ps_never)
        pss_nil)
      (pss_cons (ps_if (pt_not (pt_val (pe_cl c_is_order hr (by first | decide | omega) (by rfl) (pa_cons (pv 1) (pa_cons (pe_callB call_len_seq (by rfl) T.z_len PySem.boot_len (pa_cons (pv 0) pa_nil)) pa_nil)))))
        (pss_one ps_never)
        pss_nil)
      (pss_one (ps_ret (pe_cl c_composed hr (by first | decide | omega) (by rfl) (pa_cons (pv 0) (pa_cons (pv 1) pa_nil))))))), ?_⟩
    replace r1 : Ord n o1 := r1
    replace r2 : Ord n o2 := r2
    replace n6 : n ≤ 6 := n6
    obtain ⟨a, rfl, hA⟩ := id hU
    replace hA : SqT K H a (o1.map vi) := hA
    have l1 : (o1.map vi).length = n := by rw [List.length_map, r1.len]
    have len : ∀ {σ : L2.St} {H1 : Hp}, Ex H H1 → σ[0]? = some (some (.ref a)) → Ev (tCB (rLenS K) (tCons (tVar 0) tNil)) σ H1 (vi n) := by
      intro σ H1 e h0
      have := ev_lenT (ta := tVar 0) (ev_var h0) (ex_t e hA)
      rw [l1] at this
      exact this
    refine q_when (b := false) (et_is (et_or (et_not (et_val (ev_isi (ev_var rfl) ev_c (.ty _) (fun _ e => tyx_tup (ex_t e hA)) kit_tt))) (fun _ => et_not (et_val (ev_callV (v := .bl true) (n, o1) (ea_cons (ev_var rfl) (ea_cons (len (Ex.refl _) rfl) ea_nil)) (fun H1 e1 => ⟨⟨_, rfl, hU.ex e1⟩, r1, n6⟩) (fun _ _ p => p))))) rfl) (fun hb => by cases hb) (fun _ H1 e1 => ?_)
    refine q_when (b := false) (et_is (et_not (et_val (ev_callV (v := .bl true) (n, o2) (ea_cons (ev_var rfl) (ea_cons (len e1 rfl) ea_nil)) (fun H2 e2 => ⟨⟨_, rfl, hV.ex (e1.trans e2)⟩, r2, n6⟩) (fun _ _ p => p)))) rfl) (fun hb => by cases hb) (fun _ H2 e2 => ?_)
    exact s_retP (ep_call (n, o1, o2) (ea_cons (ev_var rfl) (ea_cons (ev_var rfl) ea_nil)) (fun H3 e3 => ⟨⟨_, _, rfl, hU.ex ((e1.trans e2).trans e3), hV.ex ((e1.trans e2).trans e3)⟩, r1, r2, n6⟩)) fun v H3 e3 hv => q _ H3 ((e1.trans e2).trans e3) hv
end
end K24
end
section
namespace K24
open PySem PySem.Spec PyProof.Rows L2 Evl RZ Dw M20
theorem big1200 : Builtin.Int.intTooBig (((Builtin.Int.intBits (10 ^ 60) : Nat) : Int) * 20) = false := by decide +kernel
theorem pow1200 {X : Cx} : OpR X (binaryOp .Pow) (fun x y H Q => x = .int (10 ^ 60) ∧ y = .int 20 ∧ Q (.int ((10 ^ 60) ^ (20 : Int).toNat)) H) := op_powG (b := 10 ^ 60) (e := 20) (by decide) (by decide) big1200
/-! ### the purse -/
/-- a purse at p, its cells at c, t draws done -/
def Pur (H : Hp) (p c : Addr) (t : Nat) : Prop := H p = some (.lst [.ref c, vi t]) ∧ ∃ cs : List Int, cs ≠ [] ∧ cs.length ≤ 63 ∧ H c = some (.lst (cs.map V.int))
/-- all but these two as it was -/
def Off (H H' : Hp) (p c : Addr) : Prop := ∀ b o, b ≠ p → b ≠ c → H b = some o → H' b = some o
theorem Off.refl {H : Hp} {p c : Addr} : Off H H p c := fun _ _ _ _ h => h
theorem Off.trans {H H1 H2 : Hp} {p c : Addr} (a : Off H H1 p c) (b : Off H1 H2 p c) : Off H H2 p c := fun x o h1 h2 h => b x o h1 h2 (a x o h1 h2 h)
theorem Off.of_ex {H H' : Hp} {p c : Addr} (e : Ex H H') : Off H H' p c := fun b o _ _ h => e b o h
theorem Pur.ex {H H' : Hp} {p c : Addr} {t : Nat} (e : Ex H H') (h : Pur H p c t) : Pur H' p c t := ⟨e _ _ h.1, let ⟨cs, h1, h2, h3⟩ := h.2; ⟨cs, h1, h2, e _ _ h3⟩⟩
theorem Pur.ne {H : Hp} {p c : Addr} {t : Nat} (h : Pur H p c t) : p ≠ c := fun e => by
  obtain ⟨h1, cs, h2, _, h3⟩ := h
  rw [e, h3] at h1
  have h4 := HO.lst.inj (Option.some.inj h1)
  cases cs with
  | nil => exact h2 rfl
  | cons x r =>
    have h5 := (List.cons.inj h4).1
    cases h5
/-- a new address is neither -/
theorem Pur.fresh {H : Hp} {p c b : Addr} {t : Nat} (h : Pur H p c t) (n : H b = none) : b ≠ p ∧ b ≠ c := by
  constructor
  · intro e
    rw [e, h.1] at n
    cases n
  · intro e
    obtain ⟨_, cs, _, _, h3⟩ := h
    rw [e, h3] at n
    cases n
theorem Off.et {K : PySem.W.Frag} {H H' : Hp} {p c : Addr} {t : Nat} (o : Off H H' p c) (h : Pur H p c t) : ET K H H' := fun a xs q => by
  have no : ∀ u, H a = some u → (∀ ys, u ≠ .lst ys) → H' a = some u := fun u hu hl => o a u (fun e => by rw [e, h.1] at hu; exact hl _ (Option.some.inj hu).symm) (fun e => by
    obtain ⟨_, cs, _, _, h3⟩ := h
    rw [e, h3] at hu
    exact hl _ (Option.some.inj hu).symm) hu
  rcases q with (q | ⟨ob, q⟩) | q
  · exact .inl (.inl (no _ q fun _ z => by cases z))
  · exact .inl (.inr ⟨ob, no _ q fun _ z => by cases z⟩)
  · exact .inr q
section
variable {P : Program} {w : World} {K : PySem.W.Frag} {mg : Str → Option Value} {base : Heap}
def sp_purse (K : PySem.W.Frag) : Sp := fun vs H Q _ => ∃ (a : Addr) (ns : List Int), vs = [.ref a] ∧ SqL K H a (ns.map V.int) ∧ ns.length ≤ 63 ∧ ∀ p c H', Ex H H' → H p = none → H c = none → Pur H' p c 0 → Q (.ref p) H'
theorem ints_shaped (cs : List Int) : SeqAt.shaped (.list (cs.map PyData.int)) = true := by
  have h1 : ∀ l : List Int, PyData.canLayAll0 (l.map PyData.int) = true := by
    intro l
    induction l with
    | nil => rfl
    | cons x r ih => show (PyData.canLay0 (.int x) && PyData.canLayAll0 (r.map PyData.int)) = true; rw [ih]; rfl
  have h2 : ∀ l : List Int, PyData.depthAll (l.map PyData.int) = 0 := by
    intro l
    induction l with
    | nil => rfl
    | cons x r ih => show max (PyData.depth (.int x)) (PyData.depthAll (r.map PyData.int)) = 0; rw [ih]; rfl
  show (PyData.canLayAll0 (cs.map PyData.int) && decide (PyData.depthAll (cs.map PyData.int) + 1 ≤ 64)) = true
  rw [h1, h2]
  rfl
theorem dp_ints {H : Hp} {a : Addr} {cs : List Int} (h : SqL K H a (cs.map V.int)) : Dp K H (.ref a) (.list (cs.map PyData.int)) := by
  refine .lst h ?_
  have : ∀ l : List Int, DpAll K H (l.map V.int) (l.map PyData.int) := by
    intro l
    induction l with
    | nil => exact .nil
    | cons x r ih => exact .cons (.int x) ih
  exact this cs
theorem c_purse (T : Txt mg) (D : Df K mg "_law_purse" s_purse ["_law_script"]) : Cl P w K mg base 1 "_law_purse" (sp_purse K) := by
  refine cl_of (k := 0) D sc_purse (fun vs H Q E h => ?_) (fun f cdv A outer s H vs Q E hr h => ?_)
  · obtain ⟨a, ns, rfl, _⟩ := h
    rfl
  · obtain ⟨a, ns, rfl, hS, len, q⟩ := h
    refine ⟨_, (pss_cons (ps_set (i := 1) sc_purse.nd rfl (.inl rfl) (pe_slice sl_list (pv 0) po_none (po_some pe_int)))
      (pss_cons (ps_for PassesOwn.never (by rfl) (pi_range1 (by rfl) T.z_range (pa_cons (pe_callB call_len_seq (by rfl) T.z_len PySem.boot_len (pa_cons (pv 1) pa_nil)) pa_nil)) (pg_name (i := 2) sc_purse.nd rfl (.inl rfl))
        (pss_one (ps_if (pt_cmpR op_ge (pe_callB call_abs (by rfl) T.z_abs (by decide +kernel) (pa_cons (pe_ix ix_list (pv 1) (pv 2) (fun _ _ => rfl)) pa_nil)) (pe_op op_pow pe_int pe_int) (nomark _))
          (pss_one (ps_asg (pe_op op_mod (pe_ix ix_list (pv 1) (pv 2) (fun _ _ => rfl)) (pe_op pow1200 (pe_op op_pow pe_int pe_int) pe_int)) (pg_sub (pv 1) (pv 2) set_list)))
          pss_nil)))
      (pss_cons (ps_if (pt_cmpR (op_eqD hr.units) (pv 1) (pe_lst pa_nil) (nomark _))
        (pss_one (ps_set (i := 1) sc_purse.nd rfl (.inl rfl) (pe_lst (pa_cons pe_int pa_nil))))
        pss_nil)
      (pss_one (ps_ret (pe_lst (pa_cons (pv 1) (pa_cons pe_int pa_nil)))))))), ?_⟩
    have cut : cutV (ns.map V.int) none (some 63) = ns.map V.int := by
      unfold cutV
      rw [HT.sIx_none, show HT.sIx (ns.map V.int).length (ns.map V.int).length (some 63) = min 63 (ns.map V.int).length from HT.sIx_nat _ _ 63, Nat.sub_zero, List.drop_zero, List.length_map]
      exact List.take_of_length_le (by rw [List.length_map]; omega)
    have sl : EvL (tSl (rSlL K) (tVar 0) tNoPart (tPart (tC (.int 63)))) [some (.ref a), none, none] H (ns.map V.int) := by
      have := el_sl (σ := [some (.ref a), none, none]) (te := tVar 0) (ev_var rfl) eo_none (eo_some (i := 63) (te := tC (.int 63)) ev_c) hS
      rw [cut] at this
      exact this
    refine q_asgL sl fun c H1 nc e1 hc => ?_
    have l63 : ∀ cs : List Int, cs.length = ns.length → (cs.map V.int).length ≤ 63 := fun cs h => by rw [List.length_map, h]; exact len
    have lenE : EvA (tCons (tCB (rLenS K) (tCons (tVar 1) tNil)) tNil) [some (.ref a), some (.ref c), none] H1 [.int (ns.length : Int)] := by
      have := ev_len (K := K) (σ := [some (.ref a), some (.ref c), none]) (ta := tVar 1) (ev_var rfl) (sq_of hc)
      rw [List.length_map] at this
      exact ea_cons this ea_nil
    refine q_forR1 lenE (by omega) (fun i σ H' => Ex H H' ∧ (∃ cs : List Int, cs.length = ns.length ∧ H' c = some (.lst (cs.map V.int))) ∧ ∃ y, σ = [some (.ref a), some (.ref c), y]) (fun H2 e2 => ⟨e1.trans e2, ⟨ns, rfl, e2 _ _ hc⟩, _, rfl⟩) (fun i σ H2 hi ⟨e2, ⟨cs, lc, hcs⟩, y, hσ⟩ => ?_) (fun σ H2 ⟨e2, ⟨cs, lc, hcs⟩, y, hσ⟩ => ?_)
    · subst hσ
      have hi' : i < cs.length := by rw [lc]; omega
      have it : Ev (tOp (rIxL K) (tVar 1) (tVar 2)) [some (.ref a), some (.ref c), some (vi i)] H2 (.int cs[i]) := ev_op (ev_var rfl) (ev_var rfl) (rv_ixL (sq_of hcs) (atI_vi (by rw [List.getElem?_map, List.getElem?_eq_getElem hi']; rfl)))
      refine s_when (et_test (ev_op (ev_cb (z := .int (if cs[i] < 0 then -cs[i] else cs[i])) (ea_cons it ea_nil) (fun H3 _ Q q3 => ⟨_, rfl, q3 H3 (Ex.refl _)⟩)) (ev_op ev_c ev_c (rv_I ⟨by decide, by decide, by decide⟩)) rv_I0)) (fun _ H3 e3 => ?_) (fun _ H3 e3 => ⟨e2.trans e3, ⟨cs, lc, e3 _ _ hcs⟩, _, rfl⟩)
      refine s_setL (e3 _ _ hcs) (ev_op (it.mono e3) (ev_op (ev_op ev_c ev_c (rv_I ⟨by decide, by decide, by decide⟩)) ev_c (fun H4 _ Q q4 => ⟨rfl, rfl, q4 H4 (Ex.refl _)⟩)) (rv_I (by decide))) (ev_var rfl) (ev_var rfl) (by rw [List.length_map]; exact hi') (fun H4 e4 => ⟨((e2.trans e3).trans e4).mut nc, ⟨cs.set i (cs[i] % (10 ^ 60) ^ (20 : Int).toNat), by rw [List.length_set, lc], ?_⟩, _, rfl⟩)
      rw [upd_same, List.map_set]
    · subst hσ
      have dp := dp_ints (K := K) (sq_of hcs)
      have test : EvT (tTest (tOp (rEqD K) (tVar 1) (tLst tNil))) [some (.ref a), some (.ref c), y] H2 (PyData.eqv (.list (cs.map PyData.int)) (.list [])) := fun H3 e3 Q q3 => ⟨_, rfl, Nat.zero_le _, fun r nr => ⟨_, _, dp_ints (sq_of (by rw [upd_ne (ne_of_none (e3 _ _ hcs) nr)]; exact e3 _ _ hcs)), .lst (sq_of upd_same) .nil, ints_shaped cs, rfl, _, rfl, q3 _ (Ex.new nr)⟩⟩
      refine q_when test (fun hb H3 e3 => ?_) (fun hb H3 e3 => ?_)
      · refine s_asgL (el_lst (ea_cons ev_c ea_nil) (by decide)) fun d H4 nd e4 hd => ?_
        have e04 : Ex H H4 := (e2.trans e3).trans e4
        have nd0 : H d = none := fresh_back (e2.trans e3) nd
        refine s_retL (el_lst (ea_cons (ev_var rfl) (ea_cons ev_c ea_nil)) (by show 2 ≤ 100000; decide)) fun p H5 np e5 hp => q p d H5 (e04.trans e5) (fresh_back e04 np) nd0 ⟨hp, [0], by simp, by decide, e5 _ _ hd⟩
      · have ne : cs ≠ [] := fun z => by
          subst z
          exact absurd hb (by decide)
        have e03 : Ex H H3 := e2.trans e3
        have l63' : cs.length ≤ 63 := by rw [lc]; exact len
        refine s_retL (el_lst (ea_cons (ev_var rfl) (ea_cons ev_c ea_nil)) (by show 2 ≤ 100000; decide)) fun p H5 np e5 hp => q p c H5 (e03.trans e5) (fresh_back e03 np) nc ⟨hp, cs, ne, l63', e5 _ _ (e3 _ _ hcs)⟩
end
end K24
end
section
namespace K24
open PySem PySem.Spec PyProof.Rows L2 Evl RZ Dw M20
section
variable {P : Program} {w : World} {K : PySem.W.Frag} {mg : Str → Option Value} {base : Heap}
/-- a draw: a number below n, one more done -/
def sp_draw : Sp := fun vs H Q _ => ∃ (p c : Addr) (t n : Nat), vs = [.ref p, vi n] ∧ Pur H p c t ∧ t ≤ 100000 ∧ 1 ≤ n ∧ n ≤ 1000 ∧ ∀ k H', k < n → Off H H' p c → Pur H' p c (t + 1) → Q (vi k) H'
theorem vi_mod {x : Int} {n : Nat} (h : 1 ≤ n) : ∃ k, k < n ∧ V.int (x % (n : Int)) = vi k := by
  have h1 : 0 ≤ x % (n : Int) := Int.emod_nonneg _ (by omega)
  have h2 : x % (n : Int) < n := Int.emod_lt_of_pos _ (by omega)
  exact ⟨(x % (n : Int)).toNat, by omega, by show V.int _ = V.int _; rw [Int.toNat_of_nonneg h1]⟩
theorem c_draw (T : Txt mg) (D : Df K mg "_law_draw" s_draw ["_law_purse_here", "_law_out_of"]) : Cl P w K mg base 1 "_law_draw" sp_draw := by
  refine cl_of (k := 0) D sc_draw (fun vs H Q E h => ?_) (fun f cdv A outer s H vs Q E hr h => ?_)
  · obtain ⟨p, c, t, n, rfl, _⟩ := h
    rfl
  · obtain ⟨p, c, t, n, rfl, pu, t1, n1, n2, q⟩ := h
    refine ⟨_, (pss_cons (ps_asg (pv 0) (pg_unl (by rfl) (pgs_cons (pg_name (i := 2) sc_draw.nd rfl (.inl rfl)) (pgs_cons (pg_name (i := 3) sc_draw.nd rfl (.inl rfl)) pgs_nil))))
      (pss_cons (ps_set (i := 4) sc_draw.nd rfl (.inl rfl) (pe_op op_mod (pv 3) (pe_callB call_len_seq (by rfl) T.z_len PySem.boot_len (pa_cons (pv 2) pa_nil))))
      (pss_cons (ps_set (i := 5) sc_draw.nd rfl (.inl rfl) (pe_ix ix_list (pv 2) (pv 4) (fun _ _ => rfl)))
      (pss_cons (ps_asg (pe_op op_add (pv 3) pe_int) (pg_sub (pv 0) pe_int set_list))
      (pss_cons (ps_if (pt_cmpR op_ge (pv 5) (pe_op op_pow pe_int pe_int) (nomark _))
        (pss_cons (ps_asg (pe_op op_fdiv (pv 5) (pv 1)) (pg_sub (pv 2) (pv 4) set_list))
        (pss_one (ps_ret (pe_op op_mod (pv 5) (pv 1)))))
        pss_nil)
      (pss_cons (ps_set (i := 6) sc_draw.nd rfl (.inl rfl) (pe_op op_mod (pe_op op_add (pe_op op_add (pe_op op_mul (pe_op op_mod (pv 5) pe_int) pe_int) (pe_op op_mul (pe_op op_mul (pv 3) (pv 3)) pe_int)) pe_int) pe_int))
      (pss_cons (ps_set (i := 6) sc_draw.nd rfl (.inl rfl) (pe_op op_mod (pe_op op_mul (pv 6) (pv 6)) pe_int))
      (pss_cons (ps_set (i := 6) sc_draw.nd rfl (.inl rfl) (pe_op op_mod (pe_op op_mul (pv 6) (pv 6)) pe_int))
      (pss_cons (ps_if (pt_cmpR op_gt (pv 1) (pe_op op_pow pe_int pe_int) (nomark _))
        (pss_cons (ps_set (i := 7) sc_draw.nd rfl (.inl rfl) (pe_op op_mod (pe_op op_add (pe_op op_add (pe_op op_mul (pv 6) pe_int) (pe_op op_mul (pv 3) pe_int)) pe_int) pe_int))
        (pss_one (ps_set (i := 6) sc_draw.nd rfl (.inl rfl) (pe_op op_mul (pv 6) (pe_op op_add (pe_op op_mul (pe_op op_mul (pv 7) (pv 7)) (pv 7)) pe_int)))))
        pss_nil)
      (pss_one (ps_ret (pe_op op_mod (pv 6) (pv 1))))))))))))), ?_⟩
    have ne := pu.ne
    obtain ⟨hp, cs, cne, c63, hc⟩ := id pu
    -- cells, turn = purse
    refine ⟨.ref p, rfl, p, _, rfl, sq_of hp, rfl, _, _, rfl, _, _, rfl, rfl, ?_⟩
    have cl : 0 < cs.length := List.length_pos_iff.mpr cne
    have lenE : Ev (tCB (rLenS K) (tCons (tVar 2) tNil)) [some (.ref p), some (vi n), some (.ref c), some (vi t), none, none, none, none] H (.int (cs.length : Int)) := by
      have := ev_len (K := K) (σ := [some (.ref p), some (vi n), some (.ref c), some (vi t), none, none, none, none]) (ta := tVar 2) (ev_var rfl) (sq_of hc)
      rw [List.length_map] at this
      exact this
    refine q_asg (v := vi (t % cs.length)) (ev_is (ev_op (ev_var rfl) lenE (rv_I (by show (0 : Int) < (cs.length : Int); omega))) (by show V.int ((t : Int) % (cs.length : Int)) = V.int ((t % cs.length : Nat) : Int); rw [Int.natCast_emod])) fun H1 e1 => ?_
    have ai : t % cs.length < cs.length := Nat.mod_lt _ cl
    refine q_asg (v := .int cs[t % cs.length]) (ev_op (ev_var rfl) (ev_var rfl) (rv_ixL (ex_l e1 (sq_of hc)) (atI_vi (by rw [List.getElem?_map, List.getElem?_eq_getElem ai]; rfl)))) fun H2 e2 => ?_
    have e02 := e1.trans e2
    -- purse[1] = turn + 1
    refine q_setL (j := 1) (e02 _ _ hp) (ev_op (ev_var rfl) ev_c rv_I0) (ev_var rfl) ev_c (by show 1 < 2; decide) fun H3 e3 => ?_
    have e03 := e02.trans e3
    have hp4 : (upd H3 p (.lst [.ref c, vi (t + 1)])) p = some (.lst [.ref c, vi (t + 1)]) := upd_same
    have hc4 : (upd H3 p (.lst [.ref c, vi (t + 1)])) c = some (.lst (cs.map V.int)) := by rw [upd_ne (Ne.symm ne)]; exact e03 _ _ hc
    have off4 : Off H (upd H3 p (.lst [.ref c, vi (t + 1)])) p c := fun b o b1 b2 hb => by rw [upd_ne b1]; exact e03 _ _ hb
    have st : (upd H3 p (.lst (List.set [V.ref c, vi t] 1 (V.int ((t : Int) + 1))))) = upd H3 p (.lst [.ref c, vi (t + 1)]) := by
      show upd H3 p (.lst [.ref c, .int ((t : Int) + 1)]) = upd H3 p (.lst [.ref c, .int ((t + 1 : Nat) : Int)])
      rw [Int.natCast_add]
      rfl
    rw [st]
    generalize upd H3 p (.lst [.ref c, vi (t + 1)]) = H4 at hp4 hc4 off4
    have pu4 : Pur H4 p c (t + 1) := ⟨hp4, cs, cne, c63, hc4⟩
    refine q_when (et_test (ev_op (ev_var rfl) (ev_op ev_c ev_c (rv_I ⟨by decide, by decide, by decide⟩)) rv_I0)) (fun _ H5 e5 => ?_) (fun _ H5 e5 => ?_)
    · refine q_setL (e5 _ _ hc4) (ev_op (ev_var rfl) (ev_var rfl) (rv_I ⟨by omega, by omega⟩)) (ev_var rfl) (ev_var rfl) (by rw [List.length_map]; exact ai) fun H6 e6 => ?_
      obtain ⟨k, hk, ek⟩ := vi_mod (x := cs[t % cs.length]) n1
      refine s_ret (v := vi k) (ev_is (ev_op (ev_var rfl) (ev_var rfl) (rv_I (by show (0 : Int) < (n : Int); omega))) ek) fun H7 e7 => q k H7 hk (fun b o b1 b2 hb => e7 _ _ (by rw [upd_ne b2]; exact e6 _ _ (e5 _ _ (off4 b o b1 b2 hb)))) ⟨e7 _ _ (by rw [upd_ne ne]; exact e6 _ _ (e5 _ _ hp4)), cs.set (t % cs.length) (cs[t % cs.length] / (n : Int)), ?_, ?_, ?_⟩
      · intro z
        have := congrArg List.length z
        rw [List.length_set] at this
        have z0 : cs.length = 0 := this
        omega
      · rw [List.length_set]; exact c63
      · refine e7 _ _ ?_
        rw [upd_same, List.map_set]
    · refine q_asg (ev_op (ev_op (ev_op (ev_op (ev_op (ev_var rfl) ev_c (rv_I (by decide))) ev_c (rv_I (.inr ⟨by decide, by decide⟩))) (ev_op (ev_op (ev_var rfl) (ev_var rfl) (rv_I (.inl ⟨by omega, by omega⟩))) ev_c (rv_I (.inr ⟨by decide, by decide⟩))) rv_I0) ev_c rv_I0) ev_c (rv_I (by decide))) fun H6 e6 => ?_
      have small : ∀ x m : Int, 0 < m → m < 2 ^ 40 → CMul (x % m) (x % m) := fun x m h1 h2 => .inl ⟨by have := Int.emod_nonneg x (show m ≠ 0 by omega); omega, by have := Int.emod_lt_of_pos x h1; omega⟩
      refine q_asg (ev_op (ev_op (ev_var rfl) (ev_var rfl) (rv_I (small _ _ (by decide) (by decide)))) ev_c (rv_I (by decide))) fun H7 e7 => ?_
      refine q_asg (ev_op (ev_op (ev_var rfl) (ev_var rfl) (rv_I (small _ _ (by decide) (by decide)))) ev_c (rv_I (by decide))) fun H8 e8 => ?_
      refine q_when (b := false) (et_is (et_test (ev_op (ev_var rfl) (ev_op ev_c ev_c (rv_I ⟨by decide, by decide, by decide⟩)) rv_I0)) ?_) (fun hb => by cases hb) (fun _ H9 e9 => ?_)
      · show decide ((10 : Int) ^ (9 : Int).toNat < (n : Int)) = false
        refine decide_eq_false ?_
        have : (10 : Int) ^ (9 : Int).toNat = 1000000000 := by decide
        rw [this]
        omega
      · have e49 := (((e5.trans e6).trans e7).trans e8).trans e9
        have fin : ∀ x : Int, tRet (tOp (rI (fun _ j => 0 < j) fun i j => .int (i % j)) (tVar 6) (tVar 1)) { nx := fun _ H' => Q .non H', rt := Q } [some (.ref p), some (vi n), some (.ref c), some (vi t), some (vi (t % cs.length)), some (.int cs[t % cs.length]), some (.int x), none] H9 := fun x => by
          obtain ⟨k, hk, ek⟩ := vi_mod (x := x) n1
          exact s_ret (v := vi k) (ev_is (ev_op (ev_var rfl) (ev_var rfl) (rv_I (by show (0 : Int) < (n : Int); omega))) ek) fun Ha ea => q k Ha hk (fun b o b1 b2 hb => (e49.trans ea) _ _ (off4 b o b1 b2 hb)) (pu4.ex (e49.trans ea))
        exact fin _
/-- _law_draw(purse, e), e worth n -/
theorem do_draw {σ : L2.St} {H : Hp} {ta tb : TE} {p c : Addr} {t n : Nat} {E : XK} {Q : VK} (hp : Ev ta σ H (.ref p)) (hn : Ev tb σ H (vi n)) (pu : Pur H p c t) (t1 : t ≤ 100000) (n1 : 1 ≤ n) (n2 : n ≤ 1000) (q : ∀ k H', k < n → Off H H' p c → Pur H' p c (t + 1) → Q (vi k) H') :
    tCall sp_draw [] E (tCons ta (tCons tb tNil)) σ H Q :=
  ea_cons hp (ea_cons hn ea_nil) H (Ex.refl H) _ fun H1 e1 => ⟨p, c, t, n, rfl, pu.ex e1, t1, n1, n2, fun k H' hk o p' => q k H' hk ((Off.of_ex e1).trans o) p'⟩
end
end K24
end
section
namespace K24
open PySem PySem.Spec PyProof.Rows L2 Evl RZ Dw M20
theorem Off.sql {K : PySem.W.Frag} {H H' : Hp} {p c l : Addr} {xs : List V} (o : Off H H' p c) (h1 : l ≠ p) (h2 : l ≠ c) (h : SqL K H l xs) : SqL K H' l xs := by
  rcases h with (h | ⟨ob, h⟩) | h
  · exact .inl (.inl (o _ _ h1 h2 h))
  · exact .inl (.inr ⟨ob, o _ _ h1 h2 h⟩)
  · exact .inr h
theorem Off.upd {H H' : Hp} {p c l : Addr} {o : HO} (f : Off H H' p c) (n : H l = none) : Off H (upd H' l o) p c := fun b u b1 b2 h => by
  rw [upd_ne (ne_of_none h n)]
  exact f b u b1 b2 h
theorem Off.back {H H' : Hp} {p c l : Addr} (f : Off H H' p c) (h1 : l ≠ p) (h2 : l ≠ c) (n : H' l = none) : H l = none := by
  cases e : H l with
  | none => rfl
  | some o =>
    rw [f l o h1 h2 e] at n
    cases n
theorem Pur.upd {H : Hp} {p c l : Addr} {t : Nat} {o : HO} (h : Pur H p c t) (h1 : l ≠ p) (h2 : l ≠ c) : Pur (upd H l o) p c t := ⟨by rw [upd_ne (Ne.symm h1)]; exact h.1, let ⟨cs, a, b, d⟩ := h.2; ⟨cs, a, b, by rw [upd_ne (Ne.symm h2)]; exact d⟩⟩
section
variable {P : Program} {w : World} {K : PySem.W.Frag} {mg : Str → Option Value} {base : Heap}
section
variable {σ : L2.St} {H : Hp} {D : Ends} {tu tz : TS}
/-- for x in range(e), e by what holds of it -/
theorem q_forRX {ta : TA} {j : Nat} (C : Nat → Hp → Prop) (h : ∀ Q : List V → Hp → Prop, (∀ n H1, C n H1 → Q [vi n] H1) → ta σ H Q) (hn : ∀ n H1, C n H1 → n ≤ 100000) (Pv : Nat → Nat → L2.St → Hp → Prop) (h0 : ∀ n H1, C n H1 → Pv n 0 σ H1)
    (hs : ∀ n i σ' H', i < n → Pv n i σ' H' → tu { D with nx := Pv n (i + 1), ct := Pv n (i + 1), bk := tz D } (σ'.set j (some (vi i))) H') (hd : ∀ n σ' H', Pv n n σ' H' → tz D σ' H') : tSeq (tFor (iRng1 ta) (gName j) tu) tz D σ H :=
  h _ fun n H1 c => ⟨(n : Int), rfl, by have := hn n H1 c; omega, by have := hn n H1 c; omega, for_range (D := { D with nx := tz D }) (lo := 0) (n := ((n : Nat) : Int).toNat) (Pv n) (h0 n H1 c) (fun i σ' H' hi p => by
    have e0 : (0 : Int) + (i : Int) = (i : Int) := Int.zero_add _
    show tu { D with nx := Pv n (i + 1), ct := Pv n (i + 1), bk := tz D } (σ'.set j (some (.int ((0 : Int) + (i : Int))))) H'
    rw [e0]
    exact hs n i σ' H' (by rw [Int.toNat_natCast] at hi; exact hi) p) (fun σ' H' p => hd n σ' H' (by rw [Int.toNat_natCast] at p; exact p))⟩
end
/-! ### a list mixed -/
def sp_mixed (K : PySem.W.Frag) : Sp := fun vs H Q _ => ∃ (p c l : Addr) (t : Nat) (xs : List V), vs = [.ref p, .ref l] ∧ Pur H p c t ∧ t ≤ 90000 ∧ SqL K H l xs ∧ l ≠ p ∧ l ≠ c ∧ xs.length ≤ 100 ∧
  ∀ m ys H', ys.Perm xs → H m = none → Off H H' p c → Pur H' p c (t + xs.length) → H' m = some (.lst ys) → Q (.ref m) H'
theorem c_mixed (T : Txt mg) (D : Df K mg "_law_mixed" s_mixed ["_law_purse_here", "_law_things"]) (c_draw : Cl P w K mg base 1 "_law_draw" sp_draw) : Cl P w K mg base 2 "_law_mixed" (sp_mixed K) := by
  refine cl_of (k := 1) D sc_mixed (fun vs H Q E h => ?_) (fun f cdv A outer s H vs Q E hr h => ?_)
  · obtain ⟨p, c, l, t, xs, rfl, _⟩ := h
    rfl
  · obtain ⟨p, c, l, t, xs, rfl, pu, t1, hl, lp, lc, x100, q⟩ := h
    refine ⟨_, (pss_cons (ps_set (i := 2) sc_mixed.nd rfl (.inl rfl) (pe_lst pa_nil))
      (pss_cons (ps_for PassesOwn.never (by rfl) (pi_list (pv 1)) (pg_name (i := 3) sc_mixed.nd rfl (.inl rfl))
        (pss_one (ps_expr (pe_bm PySem.F.plainAttrs_list PySem.F.slot_list_insert PySem.F.type_list_insert mt_insert (pv 2) (pa_cons (pe_cl c_draw hr (by first | decide | omega) (by rfl) (pa_cons (pv 0) (pa_cons (pe_op op_add (pe_callB call_len_seq (by rfl) T.z_len PySem.boot_len (pa_cons (pv 2) pa_nil)) pe_int) pa_nil))) (pa_cons (pv 3) pa_nil))))))
      (pss_one (ps_ret (pv 2))))), ?_⟩
    refine q_asgL (el_lst ea_nil (Nat.zero_le _)) fun m H1 nm e1 hm => ?_
    obtain ⟨mp, mc⟩ := pu.fresh nm
    refine q_forLn (ev_var rfl) (ex_l e1 hl) (fun i σ H' => Off H H' p c ∧ Pur H' p c (t + i) ∧ (∃ ys, H' m = some (.lst ys) ∧ ys.Perm (xs.take i)) ∧ ∃ y, σ = [some (.ref p), some (.ref l), some (.ref m), y]) (fun H2 e2 => ⟨.of_ex (e1.trans e2), pu.ex (e1.trans e2), ⟨[], e2 _ _ hm, .nil⟩, none, rfl⟩) (fun i σ H' _ ⟨o, _⟩ => o.sql lp lc hl) (fun i x σ H2 hx ⟨o2, pu2, ⟨ys, hys, perm⟩, y, hσ⟩ => ?_) (fun σ H2 ⟨o2, pu2, ⟨ys, hys, perm⟩, y, hσ⟩ => ?_)
    · subst hσ
      have hi : i < xs.length := (List.getElem?_eq_some_iff.mp hx).1
      have ly : ys.length = i := by rw [perm.length_eq, List.length_take]; omega
      have lenE : Ev (tOp (rI0 fun i j => .int (i + j)) (tCB (rLenS K) (tCons (tVar 2) tNil)) (tC (.int 1))) [some (.ref p), some (.ref l), some (.ref m), some x] H2 (vi (i + 1)) := by
        have := ev_op (r := rI0 fun i j => .int (i + j)) (ev_len (K := K) (σ := [some (.ref p), some (.ref l), some (.ref m), some x]) (ta := tVar 2) (ev_var rfl) (sq_of hys)) (ev_c (v := .int 1)) rv_I0
        rw [ly] at this
        exact this
      refine ⟨.ref m, rfl, Or.inl ⟨rfl, _, sq_of hys⟩, ?_⟩
      refine do_draw (ev_var rfl) lenE pu2 (by omega) (by omega) (by omega) fun k H3 hk o3 pu3 => ?_
      have hm3 : H3 m = some (.lst ys) := o3 _ _ mp mc hys
      refine ⟨x, rfl, m, ys, (k : Int), x, rfl, rfl, hm3, sz_lt (by omega), by omega, by omega, ?_⟩
      refine ⟨(o2.trans o3).upd nm, (pu3.upd mp mc), ⟨_, upd_same, ?_⟩, _, rfl⟩
      rw [Int.toNat_natCast, List.take_add_one, hx]
      have h1 : (ys.take k ++ [x] ++ ys.drop k).Perm (x :: (ys.take k ++ ys.drop k)) := by
        rw [List.append_assoc]
        exact List.perm_middle
      rw [List.take_append_drop] at h1
      refine h1.trans ((List.Perm.cons x perm).trans ?_)
      exact List.perm_append_singleton x (xs.take i) |>.symm
    · subst hσ
      rw [List.take_length] at perm
      exact s_ret (ev_var rfl) fun H3 e3 => q m ys H3 perm nm (o2.trans (.of_ex e3)) (pu2.ex e3) (e3 _ _ hys)
/-- a call of _law_mixed -/
theorem do_mixed {σ : L2.St} {H : Hp} {ta tb : TE} {p c l : Addr} {t : Nat} {xs : List V} {E : XK} {Q : VK} (hp : Ev ta σ H (.ref p)) (hb : EvL tb σ H xs) (pu : Pur H p c t) (t1 : t ≤ 90000) (x100 : xs.length ≤ 100)
    (q : ∀ m ys H', ys.Perm xs → H m = none → Off H H' p c → Pur H' p c (t + xs.length) → H' m = some (.lst ys) → Q (.ref m) H') : tCall (sp_mixed K) [] E (tCons ta (tCons tb tNil)) σ H Q :=
  hp H (Ex.refl H) _ fun H1 e1 => hb H1 e1 _ fun l H2 nl e2 hl => ⟨p, c, l, t, xs, rfl, pu.ex (e1.trans e2), t1, sq_of hl, ((pu.ex e1).fresh nl).1, ((pu.ex e1).fresh nl).2, x100, fun m ys H3 perm nm o p3 hm => q m ys H3 perm (fresh_back (e1.trans e2) nm) ((Off.of_ex (e1.trans e2)).trans o) p3 hm⟩
/-! ### an order drawn -/
/-- a tuple of natural numbers, told with its own object -/
theorem FNats.off {H H' : Hp} {v : V} {ns : List Nat} {p c : Addr} {t : Nat} (pu : Pur H p c t) (o : Off H H' p c) (h : FNats H v ns) : FNats H' v ns := by
  obtain ⟨a, ob, q, s, d⟩ := h
  refine ⟨a, ob, q, o _ _ (fun e => ?_) (fun e => ?_) s, d⟩
  · rw [e, pu.1] at s
    cases s
  · obtain ⟨_, cs, _, _, h3⟩ := pu
    rw [e, h3] at s
    cases s
def sp_order : Sp := fun vs H Q _ => ∃ (p c : Addr) (t n : Nat), vs = [.ref p, vi n] ∧ Pur H p c t ∧ t ≤ 90000 ∧ n ≤ 6 ∧ ∀ v o H', Off H H' p c → Pur H' p c (t + n) → FNats H' v o → Ord n o → Q v H'
theorem rg0 (n : Nat) : rgV 0 (n : Int) = (List.range n).map vi := by
  unfold rgV
  rw [Int.sub_zero, Int.toNat_natCast]
  apply List.map_congr_left
  intro k _
  show V.int (0 + (k : Int)) = V.int (k : Int)
  rw [Int.zero_add]
theorem el_lrg {σ : L2.St} {H : Hp} {te : TE} {n : Nat} (h : Ev te σ H (vi n)) (hn : n ≤ 1000) : EvL (tLstRg (tRg1 te)) σ H ((List.range n).map vi) := fun H1 e Q q =>
  h H1 e _ fun H2 e2 => ⟨(n : Int), rfl, ⟨by omega, by omega, by omega, by omega, by omega⟩, fun r nr => by
    rw [rg0]
    exact q r _ (fresh_back e2 nr) (e2.trans (Ex.new nr)) upd_same⟩
def unint : V → Nat
  | .int i => i.toNat
  | _ => 0
theorem perm_nats {ys : List V} {n : Nat} (h : ys.Perm ((List.range n).map vi)) : ∃ o, ys = o.map vi ∧ Ord n o := by
  have e1 : ((List.range n).map vi).map unint = List.range n := by
    rw [List.map_map]
    have : (unint ∘ vi) = id := funext fun k => Int.toNat_natCast k
    rw [this, List.map_id]
  have p := h.map unint
  rw [e1] at p
  refine ⟨ys.map unint, ?_, ?_⟩
  · rw [List.map_map]
    have : ys.map (vi ∘ unint) = ys.map id := List.map_congr_left fun v hv => by
      obtain ⟨k, _, rfl⟩ := List.mem_map.mp (h.mem_iff.mp hv)
      show vi (unint (vi k)) = vi k
      show V.int (((k : Int).toNat : Nat) : Int) = V.int (k : Int)
      rw [Int.toNat_natCast]
    rw [this, List.map_id]
  · have nd : (ys.map unint).Nodup := p.nodup_iff.mpr List.nodup_range
    have len : (ys.map unint).length = n := by rw [p.length_eq, List.length_range]
    refine ⟨len, fun k hk => ?_, fun j k hj hk e => ?_⟩
    · have : g (ys.map unint) k ∈ ys.map unint := List.mem_iff_getElem?.mpr ⟨k, g_eq (by rw [len]; exact hk)⟩
      exact List.mem_range.mp (p.mem_iff.mp this)
    · have h1 := g_eq (l := ys.map unint) (k := j) (by rw [len]; exact hj)
      have h2 := g_eq (l := ys.map unint) (k := k) (by rw [len]; exact hk)
      rw [List.getElem?_eq_getElem (by rw [len]; exact hj)] at h1
      rw [List.getElem?_eq_getElem (by rw [len]; exact hk)] at h2
      exact (List.getElem_inj nd).mp ((Option.some.inj h1).trans (e.trans (Option.some.inj h2).symm))
theorem c_order (T : Txt mg) (D : Df K mg "_law_order" s_ordr ["_law_purse_here", "_law_size"]) (c_mixed : Cl P w K mg base 2 "_law_mixed" (sp_mixed K)) : Cl P w K mg base 3 "_law_order" sp_order := by
  refine cl_of (k := 2) D sc_ordr (fun vs H Q E h => ?_) (fun f cdv A outer s H vs Q E hr h => ?_)
  · obtain ⟨p, c, t, n, rfl, _⟩ := h
    rfl
  · obtain ⟨p, c, t, n, rfl, pu, t1, n6, q⟩ := h
    refine ⟨_, (pss_one (ps_ret (pe_callTy call_tupF (by rfl) T.z_tuple (by decide +kernel) (pa_cons (pe_cl c_mixed hr (by decide) (by rfl) (pa_cons (pv 0) (pa_cons (pe_listRg rfl (by rfl) T.z_list (prg_1 (by rfl) T.z_range (pv 1))) pa_nil))) pa_nil)))), ?_⟩
    refine do_mixed (l := p) (ev_var rfl) (el_lrg (ev_var rfl) (by omega)) pu t1 (by simp; omega) fun m ys H1 perm nm o1 pu1 hm => ?_
    rw [List.length_map, List.length_range] at pu1
    obtain ⟨o, rfl, ord⟩ := perm_nats perm
    refine ⟨m, _, rfl, sq_of hm, fun r ob nr dn => q _ o _ (o1.trans (.of_ex (Ex.new nr))) (pu1.ex (Ex.new nr)) ⟨r, ob, rfl, upd_same, dn⟩ ord⟩
/-! ### a signature drawn -/
def okN : List Str := ["m", "e", "co", "sq", "a", "back"]
theorem okN_nd : okN.Nodup := by decide +kernel
theorem okN_name : ∀ z ∈ okN, Name z := by
  have h : ∀ z ∈ okN, 1 ≤ z.length ∧ z.length ≤ 4 ∧ ∀ c ∈ z.cps.toList, c ∈ letters.cps.toList := by decide +kernel
  exact fun z hz => ⟨(h z hz).1, (h z hz).2.1, (h z hz).2.2⟩
def unstr : V → Str
  | .str z => z
  | _ => ""
theorem perm_strs {ys : List V} {zs : List Str} (h : ys.Perm (zs.map V.str)) : ∃ us : List Str, ys = us.map V.str ∧ us.Perm zs := by
  have e1 : (zs.map V.str).map unstr = zs := by
    rw [List.map_map]
    have : (unstr ∘ V.str) = id := rfl
    rw [this, List.map_id]
  have p := h.map unstr
  rw [e1] at p
  refine ⟨ys.map unstr, ?_, p⟩
  rw [List.map_map]
  have : ys.map (V.str ∘ unstr) = ys.map id := List.map_congr_left fun v hv => by
    obtain ⟨k, _, rfl⟩ := List.mem_map.mp (h.mem_iff.mp hv)
    rfl
  rw [this, List.map_id]
def sp_signature (K : PySem.W.Frag) : Sp := fun vs H Q _ => ∃ (p c : Addr) (t : Nat), vs = [.ref p, vi 4] ∧ Pur H p c t ∧ t ≤ 80000 ∧ ∀ v sg t' H', Off H H' p c → Pur H' p c t' → t' ≤ t + 20 → Sig K H' v sg → SigOk sg → Q v H'
def pls : List Nat := [0, 1, 2, 2]
theorem c_signature (T : Txt mg) (D : Df K mg "_law_signature" s_sgn ["_law_purse_here", "_law_most"]) (c_draw : Cl P w K mg base 1 "_law_draw" sp_draw) (c_mixed : Cl P w K mg base 2 "_law_mixed" (sp_mixed K)) : Cl P w K mg base 3 "_law_signature" (sp_signature K) := by
  refine cl_of (k := 2) D sc_sgn (fun vs H Q E h => ?_) (fun f cdv A outer s H vs Q E hr h => ?_)
  · obtain ⟨p, c, t, rfl, _⟩ := h
    rfl
  · obtain ⟨p, c, t, rfl, pu, t1, q⟩ := h
    refine ⟨_, (pss_cons (ps_set (i := 2) sc_sgn.nd rfl (.inl rfl) (pe_cl c_mixed hr (by first | decide | omega) (by rfl) (pa_cons (pv 0) (pa_cons (pe_lst (pa_cons pe_str (pa_cons pe_str (pa_cons pe_str (pa_cons pe_str (pa_cons pe_str (pa_cons pe_str pa_nil))))))) pa_nil))))
      (pss_cons (ps_set (i := 3) sc_sgn.nd rfl (.inl rfl) (pe_lst pa_nil))
      (pss_cons (ps_for PassesOwn.never (by rfl) (pi_range1 (by rfl) T.z_range (pa_cons (pe_op op_add pe_int (pe_cl c_draw hr (by first | decide | omega) (by rfl) (pa_cons (pv 0) (pa_cons (pv 1) pa_nil)))) pa_nil)) (pg_name (i := 4) sc_sgn.nd rfl (.inl rfl))
        (pss_one (ps_expr (pe_bm PySem.F.plainAttrs_list PySem.F.slot_list_append PySem.F.type_list_append mt_append (pv 3) (pa_cons (pe_tup (pa_cons (pe_ix ix_list (pv 2) (pv 4) (fun _ _ => rfl)) (pa_cons (pe_ix ix_list (pe_lst (pa_cons pe_int (pa_cons pe_int (pa_cons pe_int (pa_cons pe_int pa_nil))))) (pe_cl c_draw hr (by first | decide | omega) (by rfl) (pa_cons (pv 0) (pa_cons pe_int pa_nil))) (fun _ _ => rfl)) pa_nil))) pa_nil)))))
      (pss_one (ps_ret (pe_callTy call_tuple_of (by rfl) T.z_tuple (by decide +kernel) (pa_cons (pv 3) pa_nil))))))), ?_⟩
    -- the names
    refine do_mixed (l := p) (ev_var rfl) (el_lst (vs := okN.map V.str) (ea_cons ev_c (ea_cons ev_c (ea_cons ev_c (ea_cons ev_c (ea_cons ev_c (ea_cons ev_c ea_nil)))))) (by show 6 ≤ 100000; decide)) pu (by omega) (by show 6 ≤ 100; decide) fun m ys H1 perm nm o1 pu1 hm => ?_
    replace pu1 : Pur H1 p c (t + 6) := pu1
    obtain ⟨zs, rfl, pz⟩ := perm_strs perm
    have lz : zs.length = 6 := pz.length_eq
    have ndz : zs.Nodup := pz.nodup_iff.mpr okN_nd
    obtain ⟨mp, mc⟩ := pu.fresh nm
    show tSeq _ _ _ _ H1
    refine q_asgL (el_lst ea_nil (Nat.zero_le _)) fun l H2 nl e2 hl => ?_
    obtain ⟨lp, lc⟩ := pu1.fresh nl
    have lm : l ≠ m := fun e => by rw [e, hm] at nl; cases nl
    have hm2 := e2 _ _ hm
    have pu2 := pu1.ex e2
    have nlH : H l = none := o1.back lp lc nl
    have o2 : Off H H2 p c := o1.trans (.of_ex e2)
    refine q_forRX (fun n H3 => 1 ≤ n ∧ n ≤ 4 ∧ Off H2 H3 p c ∧ Pur H3 p c (t + 7)) (fun Q h => ?_) (fun n H3 h => by omega)
      (fun n i σ H' => (1 ≤ n ∧ n ≤ 4) ∧ Off H H' p c ∧ Pur H' p c (t + 7 + i) ∧ H' m = some (.lst (zs.map V.str)) ∧ (∃ ws sg, H' l = some (.lst ws) ∧ Paired (Deed K H') ws sg ∧ sg.map (·.1) = zs.take i ∧ ∀ q ∈ sg, q.2 ≤ 2) ∧ ∃ y, σ = [some (.ref p), some (vi 4), some (.ref m), some (.ref l), y])
      (fun n H3 ⟨a, b, o3, pu3⟩ => ⟨⟨a, b⟩, o2.trans o3, pu3, o3 _ _ mp mc hm2, ⟨[], [], o3 _ _ lp lc hl, .nil, rfl, fun _ z => nomatch z⟩, _, rfl⟩) (fun n i σ H3 hi ⟨⟨a, b⟩, o3, pu3, hm3, ⟨ws, sg, hws, pws, nms, pl2⟩, y, hσ⟩ => ?_) (fun n σ H3 ⟨⟨a, b⟩, o3, pu3, hm3, ⟨ws, sg, hws, pws, nms, pl2⟩, y, hσ⟩ => ?_)
    · refine do_draw (ev_var rfl) (ev_var rfl) pu2 (by omega) (by decide) (by decide) fun k H3 hk o3 pu3 => ⟨1, (k : Int), rfl, rfl, ?_⟩
      have e : V.int (1 + (k : Int)) = vi (k + 1) := by
        show V.int (1 + (k : Int)) = V.int ((k + 1 : Nat) : Int)
        rw [Int.natCast_add, Int.add_comm]
        rfl
      show Q [V.int (1 + (k : Int))] H3
      rw [e]
      exact h (k + 1) H3 ⟨by omega, by omega, o3, pu3⟩
    · subst hσ
      have hz : i < zs.length := by omega
      refine ⟨.ref l, rfl, .inl ⟨rfl, _, sq_of hws⟩, ?_⟩
      have nameE : Ev (tOp (rIxL K) (tVar 2) (tVar 4)) [some (.ref p), some (vi 4), some (.ref m), some (.ref l), some (vi i)] H3 (.str zs[i]) := ev_op (ev_var rfl) (ev_var rfl) (rv_ixL (sq_of hm3) (atI_vi (by rw [List.getElem?_map, List.getElem?_eq_getElem hz]; rfl)))
      refine nameE H3 (Ex.refl _) _ fun H4 e4 => ?_
      have plsE : EvL (tLst (tCons (tC (.int 0)) (tCons (tC (.int 1)) (tCons (tC (.int 2)) (tCons (tC (.int 2)) tNil))))) [some (.ref p), some (vi 4), some (.ref m), some (.ref l), some (vi i)] H4 (pls.map vi) := el_lst (ea_cons ev_c (ea_cons ev_c (ea_cons ev_c (ea_cons ev_c ea_nil)))) (by show 4 ≤ 100000; decide)
      refine do_cons (do_op (do_evL plsE fun d H5 nd e5 hd => ?_))
      have e35 := e4.trans e5
      refine do_draw (ev_var rfl) (ev_c (v := vi 4)) (pu3.ex e35) (by omega) (by decide) (by decide) fun k H6 hk o6 pu6 => ?_
      obtain ⟨dp, dc⟩ := (pu3.ex e4).fresh nd
      refine ⟨d, pls.map vi, (k : Int), vi (g pls k), rfl, rfl, sq_of (o6 _ _ dp dc hd), atI_vi (vi_get hk), ?_⟩
      refine ⟨by show 2 ≤ sizeLine; decide, fun r nr => ?_⟩
      have hl6 : H6 l = some (.lst ws) := o6 _ _ lp lc (e35 _ _ hws)
      have hl7 : (upd H6 r (.tup [.str zs[i], vi (g pls k)])) l = some (.lst ws) := by rw [upd_ne (ne_of_none hl6 nr)]; exact hl6
      have lw : ws.length ≤ 4 := by
        have h1 := paired_len pws
        have h2 := congrArg List.length nms
        rw [List.length_map, List.length_take] at h2
        omega
      refine ⟨l, ws, .ref r, rfl, rfl, hl7, sz_lt (by omega), ?_⟩
      have o36 : Off H3 H6 p c := (Off.of_ex e35).trans o6
      have o37 : Off H3 (upd H6 r (.tup [.str zs[i], vi (g pls k)])) p c := o36.trans (.of_ex (Ex.new nr))
      obtain ⟨rp, rc⟩ := pu6.fresh nr
      have et : ET K H3 (upd (upd H6 r (.tup [.str zs[i], vi (g pls k)])) l (.lst (ws ++ [.ref r]))) := ET.upd (o37.et pu3) hl7
      have hm6 : H6 m = some (.lst (zs.map V.str)) := o6 _ _ mp mc (e35 _ _ hm3)
      refine ⟨⟨a, b⟩, (o3.trans o37).upd nlH, (pu6.upd rp rc).upd lp lc, ?_, ⟨ws ++ [.ref r], sg ++ [(zs[i], g pls k)], upd_same, paired_snoc ?_ (paired_imp (fun _ _ z => z.et et) pws), ?_, fun x hx => ?_⟩, _, rfl⟩
      · rw [upd_ne (Ne.symm lm), upd_ne (ne_of_none hm6 nr)]
        exact hm6
      · refine ⟨r, rfl, st_of ?_⟩
        rw [upd_ne (fun e => by rw [e] at nr; rw [nr] at hl6; cases hl6), upd_same]
      · rw [List.map_append, nms, List.take_add_one, List.getElem?_eq_getElem hz]
        rfl
      · rcases List.mem_append.mp hx with z | z
        · exact pl2 x z
        · rw [List.mem_singleton.mp z]
          have : ∀ k, k < 4 → g pls k ≤ 2 := by decide
          exact this k hk
    · subst hσ
      have ls : sg.length = n := by
        have h2 := congrArg List.length nms
        rw [List.length_map, List.length_take] at h2
        omega
      have ok : SigOk sg := ⟨by omega, by omega, fun x hx => okN_name _ (pz.mem_iff.mp (List.mem_of_mem_take (by rw [← nms]; exact List.mem_map.mpr ⟨x, hx, rfl⟩))), pl2, by rw [nms]; exact (List.take_sublist _ _).nodup ndz⟩
      refine eu_tupL (K := K) (ev_var rfl) (sq_of hws) H3 (Ex.refl _) _ fun r H4 nr e4 hr4 => q _ sg (t + 7 + n) H4 (o3.trans (.of_ex e4)) (pu3.ex e4) (by omega) ⟨r, ws, rfl, st_of hr4, paired_imp (fun _ _ z => z.et (Dw.Ex.et e4)) pws⟩ ok
end
end K24
end
section
namespace K24
open PySem PySem.Spec PyProof.Rows L2 Evl RZ Dw M20
/-- a comprehension whose element may do anything, by what holds between its turns -/
theorem do_lcIt {J : It} {n : Nat} {G : Hp → Prop} {Y : Nat → Hp → V → Hp → Prop} {wi : TI} {g : TG} {te : TE} {σ : L2.St} {H : Hp} {vs : List Nat} {Q : VK} (w : Walk J n G Y) (hw0 : ∀ R : It → Hp → Prop, (∀ H1, Ex H H1 → R J H1) → wi σ H R) (Pv : Addr → Nat → Hp → Prop)
    (h0 : ∀ D H1, Ex H H1 → H1 D = none → Pv D 0 (upd H1 D (.lst []))) (hG : ∀ D i H', i ≤ n → Pv D i H' → G H')
    (hs : ∀ D i x H' H'', i < n → Pv D i H' → Y i H' x H'' → g x (wipe σ vs) H'' fun σ2 H2 => wipe σ2 vs = wipe σ vs ∧ if true = true then te σ2 H2 fun y H4 => ∃ acc, H4 D = some (.lst acc) ∧ acc.length < sizeLine ∧ Pv D (i + 1) (upd H4 D (.lst (acc ++ [y]))) else Pv D (i + 1) H2)
    (hd : ∀ D H', Pv D n H' → Q (.ref D) H') : tLc wi g tYes te vs σ H Q :=
  hw0 _ fun H1 e1 Dl nD => lc_it w (Pv Dl) (h0 Dl H1 e1 nD) (hG Dl) (fun i x H2 H3 hi p y => hs Dl i x H2 H3 hi p y) (fun H2 p => hd Dl H2 p)
theorem do_name {i : Nat} {v : V} {σ : L2.St} {H : Hp} {Q : L2.St → Hp → Prop} (h : Q (σ.set i (some v)) H) : gName i v σ H Q := h
theorem do_set {i : Nat} {te : TE} {tz : TS} {D : Ends} {σ : L2.St} {H : Hp} (h : te σ H fun x H1 => tz D (σ.set i (some x)) H1) : tSeq (tAsg te (gName i)) tz D σ H := h
theorem do_sub {to ti : TE} {t : TSet} {v : V} {σ : L2.St} {H : Hp} {Q : L2.St → Hp → Prop} (h : to σ H fun o H1 => ti σ H1 fun i H2 => t o i v H2 fun H3 => Q σ H3) : gSub to ti t v σ H Q := h
/-- something put behind a list -/
theorem do_app {K : PySem.W.Frag} {ta te : TE} {l : Addr} {xs : List V} {D : Ends} {σ : L2.St} {H : Hp} (hl : H l = some (.lst xs)) (ha : Ev ta σ H (.ref l))
    (h : ∀ H1, Ex H H1 → te σ H1 fun v H2 => ∃ a ys y, V.ref l = .ref a ∧ [v] = [y] ∧ H2 a = some (.lst ys) ∧ ys.length < sizeLine ∧ D.nx σ (upd H2 a (.lst (ys ++ [y])))) : tDrop (tBM K "list" rAppend ta (tCons te tNil)) D σ H :=
  ha H (Ex.refl H) _ fun H1 e1 => ⟨Or.inl ⟨rfl, xs, sq_of (e1 l _ hl)⟩, h H1 e1⟩
theorem vi_addmod (a b n : Nat) : V.int ((((a : Nat) : Int) + ((b : Nat) : Int)) % (n : Int)) = vi ((a + b) % n) := by
  rw [← Int.natCast_add, ← Int.natCast_emod]
theorem vi_max (a b : Nat) : V.int (if (b : Int) > (a : Int) then (b : Int) else (a : Int)) = vi (max a b) := by
  by_cases h : a < b
  · rw [if_pos (by omega), Nat.max_eq_right (Nat.le_of_lt h)]
  · rw [if_neg (by omega), Nat.max_eq_left (by omega)]
theorem vi_min (a b : Nat) : V.int (if (b : Int) < (a : Int) then (b : Int) else (a : Int)) = vi (min a b) := by
  by_cases h : b < a
  · rw [if_pos (by omega), Nat.min_eq_right (Nat.le_of_lt h)]
  · rw [if_neg (by omega), Nat.min_eq_left (by omega)]
section
variable {P : Program} {w : World} {K : PySem.W.Frag} {mg : Str → Option Value} {base : Heap}
/-! ### a table drawn -/
def sp_table (K : PySem.W.Frag) : Sp := fun vs H Q _ => ∃ (p c : Addr) (t n pl : Nat), vs = [.ref p, vi n, vi pl] ∧ Pur H p c t ∧ t ≤ 80000 ∧ 1 ≤ n ∧ n ≤ 6 ∧ pl ≤ 2 ∧ ∀ v tb t' H', Off H H' p c → Pur H' p c t' → t' ≤ t + 100 → Nats K H' v tb → Tab n pl tb → Q v H'
theorem tab_of {n pl : Nat} {ks : List Nat} (h1 : ks.length = n ^ pl) (h2 : ∀ k ∈ ks, k < n) : Tab n pl ks := ⟨h1, fun k hk => h2 _ (List.mem_iff_getElem?.mpr ⟨k, g_eq (by rw [h1]; exact hk)⟩)⟩
theorem c_table (T : Txt mg) (D : Df K mg "_law_table" s_tbl ["_law_purse_here", "_law_size", "_law_places"]) (c_draw : Cl P w K mg base 1 "_law_draw" sp_draw) (c_mixed : Cl P w K mg base 2 "_law_mixed" (sp_mixed K)) : Cl P w K mg base 3 "_law_table" (sp_table K) := by
  refine cl_of (k := 2) D sc_tbl (fun vs H Q E h => ?_) (fun f cdv A outer s H vs Q E hr h => ?_)
  · obtain ⟨p, c, t, n, pl, rfl, _⟩ := h
    rfl
  · obtain ⟨p, c, t, n, pl, rfl, pu, t1, n1, n6, p2, q⟩ := h
    refine ⟨_, (pss_cons (ps_set (i := 3) sc_tbl.nd rfl (.inl rfl) (pe_cl c_draw hr (by first | decide | omega) (by rfl) (pa_cons (pv 0) (pa_cons pe_int pa_nil))))
      (pss_cons (ps_if (pt_cmpR op_eq (pv 2) pe_int (nomark _))
        (pss_one (ps_ret (pe_tup (pa_cons (pe_cl c_draw hr (by first | decide | omega) (by rfl) (pa_cons (pv 0) (pa_cons (pv 1) pa_nil))) pa_nil))))
        pss_nil)
      (pss_cons (ps_if (pt_cmpR op_eq (pv 2) pe_int (nomark _))
        (pss_cons (ps_set (i := 4) sc_tbl.nd rfl (.inl rfl) (pe_cl c_mixed hr (by first | decide | omega) (by rfl) (pa_cons (pv 0) (pa_cons (pe_listRg rfl (by rfl) T.z_list (prg_1 (by rfl) T.z_range (pv 1))) pa_nil))))
        (pss_one (ps_ret (pe_ix ix_list (pe_lst (pa_cons (pe_callTy call_tuple_of (by rfl) T.z_tuple (by decide +kernel) (pa_cons (pe_lc (own := [("_law_k", 7)]) (g := (gName 7)) (by rfl) sc_tbl.nd (pi_range1 (by rfl) T.z_range (pa_cons (pv 1) pa_nil)) (blkOk_by (own := [("_law_k", 7)]) (N := ["_law_purse_here", "_law_size", "_law_places", "_law_way_here", "_law_turned", "_law_by", "_law_brought", "_law_k", "_law_one", "_law_other", "_law_some_here"]) (sc := (defScope s_tbl)) (by decide +kernel)) (fun _ _ _ _ _ => (pg_name (i := 7) sc_tbl.nd rfl (.inl rfl))) (fun _ _ _ _ _ => pts_nil) (fun _ _ _ _ _ => (pe_cl c_draw hr (by first | decide | omega) (by rfl) (pa_cons (pv 0) (pa_cons (pv 1) pa_nil))))) pa_nil)) (pa_cons (pe_callTy call_tuple_of (by rfl) T.z_tuple (by decide +kernel) (pa_cons (pv 4) pa_nil)) pa_nil))) (pe_op op_mod (pv 3) pe_int) (fun _ _ => rfl)))))
        pss_nil)
      (pss_cons (ps_set (i := 5) sc_tbl.nd rfl (.inl rfl) (pe_cl c_draw hr (by first | decide | omega) (by rfl) (pa_cons (pv 0) (pa_cons (pv 1) pa_nil))))
      (pss_cons (ps_set (i := 6) sc_tbl.nd rfl (.inl rfl) (pe_lst pa_nil))
      (pss_cons (ps_for PassesOwn.never (by rfl) (pi_range1 (by rfl) T.z_range (pa_cons (pe_op op_mul (pv 1) (pv 1)) pa_nil)) (pg_name (i := 7) sc_tbl.nd rfl (.inl rfl))
        (pss_cons (ps_par (i := 8) (j := 9) (by rfl) sc_tbl.nd rfl rfl (by decide) rfl rfl (pa_cons (pe_op op_fdiv (pv 7) (pv 1)) (pa_cons (pe_op op_mod (pv 7) (pv 1)) pa_nil)) (by rfl))
        (pss_cons (ps_set (i := 10) sc_tbl.nd rfl (.inl rfl) (pe_lst (pa_cons (pe_op op_mod (pe_op op_add (pv 8) (pv 9)) (pv 1)) (pa_cons (pe_callB (call_max2 rfl) (by rfl) T.z_max (by decide +kernel) (pa_cons (pv 8) (pa_cons (pv 9) pa_nil))) (pa_cons (pe_callB (call_min2 rfl) (by rfl) T.z_min (by decide +kernel) (pa_cons (pv 8) (pa_cons (pv 9) pa_nil))) (pa_cons (pv 5) (pa_cons (pv 8) (pa_cons (pv 9) pa_nil))))))))
        (pss_one (ps_expr (pe_bm PySem.F.plainAttrs_list PySem.F.slot_list_append PySem.F.type_list_append mt_append (pv 6) (pa_cons (pe_ix ix_list (pe_op op_cat (pv 10) (pe_lst (pa_cons (pe_cl c_draw hr (by first | decide | omega) (by rfl) (pa_cons (pv 0) (pa_cons (pv 1) pa_nil))) pa_nil))) (pv 3) (fun _ _ => rfl)) pa_nil)))))))
      (pss_cons (ps_if (pt_cmpR op_eq (pe_cl c_draw hr (by first | decide | omega) (by rfl) (pa_cons (pv 0) (pa_cons pe_int pa_nil))) pe_int (nomark _))
        (pss_one (ps_asg (pe_cl c_draw hr (by first | decide | omega) (by rfl) (pa_cons (pv 0) (pa_cons (pv 1) pa_nil))) (pg_sub (pv 6) (pe_cl c_draw hr (by first | decide | omega) (by rfl) (pa_cons (pv 0) (pa_cons (pe_op op_mul (pv 1) (pv 1)) pa_nil))) set_list)))
        pss_nil)
      (pss_one (ps_ret (pe_callTy call_tuple_of (by rfl) T.z_tuple (by decide +kernel) (pa_cons (pv 6) pa_nil))))))))))), ?_⟩
    have nn : n * n ≤ 36 := Nat.mul_le_mul n6 n6
    have nn1 : 1 ≤ n * n := Nat.mul_le_mul n1 n1
    -- way = draw(purse, 7)
    refine do_seq (do_asg (do_draw (ev_var rfl) (ev_c (v := vi 7)) pu (by omega) (by decide) (by decide) fun way H1 hw o1 pu1 => ?_))
    show tSeq _ _ _ [some (.ref p), some (vi n), some (vi pl), some (vi way), none, none, none, none, none, none, none] H1
    refine q_when (et_test (ev_op (ev_var rfl) ev_c (rv_eq rfl))) (fun hb H2 e2 => ?_) (fun hb H2 e2 => ?_)
    · have p0 : pl = 0 := by
        have z : (pl : Int) = 0 := V.int.inj (of_decide_eq_true hb)
        omega
      subst p0
      refine do_ret (do_tup (do_cons (do_draw (ev_var rfl) (ev_var rfl) (pu1.ex e2) (by omega) n1 (by omega) fun k H3 hk o3 pu3 => ?_)))
      refine ⟨by show 1 ≤ sizeLine; decide, fun r nr => q _ [k] (t + 2) _ (((o1.trans (.of_ex e2)).trans o3).trans (.of_ex (Ex.new nr))) (pu3.ex (Ex.new nr)) (by omega) ⟨r, rfl, st_of upd_same⟩ (tab_of rfl (fun x hx => by rw [List.mem_singleton.mp hx]; exact hk))⟩
    · refine q_when (et_test (ev_op (ev_var rfl) ev_c (rv_eq rfl))) (fun hb1 H3 e3 => ?_) (fun hb1 H3 e3 => ?_)
      · have p1 : pl = 1 := by
          have z : (pl : Int) = 1 := V.int.inj (of_decide_eq_true hb1)
          omega
        subst p1
        have e13 := e2.trans e3
        refine do_set ((do_mixed (l := p) (ev_var rfl) (el_lrg (ev_var rfl) (by omega)) (pu1.ex e13) (by omega) (by simp; omega) fun m ys H4 perm nm o4 pu4 hm => ?_))
        rw [List.length_map, List.length_range] at pu4
        obtain ⟨o, rfl, ord⟩ := perm_nats perm
        obtain ⟨mp, mc⟩ := (pu1.ex e13).fresh nm
        have o14 : Off H H4 p c := (o1.trans (.of_ex e13)).trans o4
        refine do_ret (do_op (do_lst (do_cons (do_cb (do_cons ?_)))))
        refine do_lcIt walk_range (fun R r => w_rng (n := n) (ea_cons (ev_var rfl) ea_nil) (by omega) H4 (Ex.refl _) R r) (fun D i H' => H4 D = none ∧ Off H4 H' p c ∧ Pur H' p c (t + 1 + n + i) ∧ ∃ ks : List Nat, H' D = some (.lst (ks.map vi)) ∧ ks.length = i ∧ ∀ k ∈ ks, k < n)
          (fun D H5 e5 nD => ⟨fresh_back e5 nD, .of_ex (e5.trans (Ex.new nD)), (pu4.ex (e5.trans (Ex.new nD))), [], upd_same, rfl, fun _ z => nomatch z⟩) (fun _ _ _ _ _ => trivial) (fun D i x H5 H6 hi ⟨nD, o5, pu5, ks, hks, lk, low⟩ y => ?_) (fun D H5 ⟨nD, o5, pu5, ks, hks, lk, low⟩ => ?_)
        · obtain ⟨rfl, rfl⟩ := y
          obtain ⟨Dp, Dc⟩ := pu4.fresh nD
          refine ⟨rfl, iteT (do_draw (ev_var rfl) (ev_var rfl) pu5 (by omega) n1 (by omega) fun k H7 hk o7 pu7 => ⟨ks.map vi, o7 _ _ Dp Dc hks, sz_lt (by rw [List.length_map]; omega), nD, (o5.trans o7).upd nD, pu7.upd Dp Dc, ks ++ [k], ?_, by rw [List.length_append, lk]; rfl, fun x hx => ?_⟩)⟩
          · rw [upd_same, List.map_append]
            rfl
          · rcases List.mem_append.mp hx with z | z
            · exact low x z
            · rw [List.mem_singleton.mp z]
              exact hk
        · -- tuple(the list), tuple(turned)
          obtain ⟨Dp, Dc⟩ := pu4.fresh nD
          refine ⟨D, _, rfl, .inl ⟨sq_of hks, fun r nr => ?_⟩⟩
          have hm5 : H5 m = some (.lst (o.map vi)) := o5 _ _ mp mc hm
          have hm6 : (upd H5 r (.tup (ks.map vi))) m = some (.lst (o.map vi)) := Ex.new nr _ _ hm5
          have pu6 := pu5.ex (Ex.new (o := .tup (ks.map vi)) nr)
          refine do_cons (do_evU (eu_tupL (K := K) (ev_var rfl) (sq_of hm6)) fun r2 H7 nr2 e7 hr2 => ?_)
          refine ⟨by show 2 ≤ sizeLine; decide, fun l nl => ?_⟩
          have e68 : Ex (upd H5 r (.tup (ks.map vi))) (upd H7 l (.lst [.ref r, .ref r2])) := e7.trans (Ex.new nl)
          have o18 : Off H (upd H7 l (.lst [.ref r, .ref r2])) p c := ((o14.trans o5).trans (.of_ex (Ex.new nr))).trans (.of_ex e68)
          have pu8 := pu6.ex e68
          have hr8 : (upd H7 l (.lst [.ref r, .ref r2])) r = some (.tup (ks.map vi)) := e68 _ _ upd_same
          have hr28 : (upd H7 l (.lst [.ref r, .ref r2])) r2 = some (.tup (o.map vi)) := Ex.new nl _ _ hr2
          refine do_ev (v := vi (way % 2)) (ev_is (ev_op (ev_var rfl) ev_c (rv_I (by decide))) (by show V.int ((way : Int) % 2) = V.int ((way % 2 : Nat) : Int); rw [Int.natCast_emod]; rfl)) fun H9 e9 => ?_
          have b9 := o18.trans (.of_ex e9)
          have pu9 := pu8.ex e9
          have hl9 : H9 l = some (.lst [.ref r, .ref r2]) := e9 _ _ upd_same
          have le : t + 1 + n + n ≤ t + 100 := by omega
          rcases Nat.mod_two_eq_zero_or_one way with z | z
          · rw [z]
            exact ⟨l, _, 0, .ref r, rfl, rfl, sq_of hl9, rfl, q _ ks _ H9 b9 pu9 le ⟨r, rfl, st_of (e9 _ _ hr8)⟩ (tab_of (by rw [lk, Nat.pow_one]) low)⟩
          · rw [z]
            refine ⟨l, _, 1, .ref r2, rfl, rfl, sq_of hl9, rfl, q _ o _ H9 b9 pu9 le ⟨r2, rfl, st_of (e9 _ _ hr28)⟩ ⟨by rw [ord.len, Nat.pow_one], fun k hk => ord.low k (by rw [Nat.pow_one] at hk; exact hk)⟩⟩
      · have p2' : pl = 2 := by
          have a0 : pl ≠ 0 := fun z => by
            subst z
            exact absurd rfl (of_decide_eq_false hb)
          have a1 : pl ≠ 1 := fun z => by
            subst z
            exact absurd rfl (of_decide_eq_false hb1)
          omega
        subst p2'
        have e13 := e2.trans e3
        refine do_seq (do_asg (do_draw (ev_var rfl) (ev_var rfl) (pu1.ex e13) (by omega) n1 (by omega) fun by' H4 hby o4 pu4 => ?_))
        show tSeq _ _ _ [some (.ref p), some (vi n), some (vi 2), some (vi way), none, some (vi by'), none, none, none, none, none] H4
        have o14 : Off H H4 p c := (o1.trans (.of_ex e13)).trans o4
        refine q_asgL (el_lst ea_nil (Nat.zero_le _)) fun l H5 nl e5 hl => ?_
        obtain ⟨lp, lc⟩ := pu4.fresh nl
        have nlH : H l = none := o14.back lp lc nl
        have o15 : Off H H5 p c := o14.trans (.of_ex e5)
        have pu5 := pu4.ex e5
        have sq : Ev (tOp (rI CMul fun i j => .int (i * j)) (tVar 1) (tVar 1)) [some (.ref p), some (vi n), some (vi 2), some (vi way), none, some (vi by'), some (.ref l), none, none, none, none] H5 (vi (n * n)) := ev_is (ev_op (ev_var rfl) (ev_var rfl) (rv_I (.inl ⟨by omega, by omega⟩))) (by show V.int ((n : Int) * (n : Int)) = V.int ((n * n : Nat) : Int); rw [Int.natCast_mul])
        refine q_forRX (fun m H6 => m = n * n ∧ Ex H5 H6) (fun Q h => ea_cons sq ea_nil H5 (Ex.refl _) Q fun H6 e6 => h (n * n) H6 ⟨rfl, e6⟩) (fun m H6 h => by omega)
          (fun m i σ H' => m = n * n ∧ Off H H' p c ∧ Pur H' p c (t + 2 + i) ∧ (∃ ks : List Nat, H' l = some (.lst (ks.map vi)) ∧ ks.length = i ∧ ∀ k ∈ ks, k < n) ∧ ∃ y7 y8 y9 y10, σ = [some (.ref p), some (vi n), some (vi 2), some (vi way), none, some (vi by'), some (.ref l), y7, y8, y9, y10])
          (fun m H6 ⟨h, e6⟩ => ⟨h, o15.trans (.of_ex e6), pu5.ex e6, ⟨[], e6 _ _ hl, rfl, fun _ z => nomatch z⟩, _, _, _, _, rfl⟩) (fun m i σ H6 hi ⟨hm, o6, pu6, ⟨ks, hks, lk, low⟩, y7, y8, y9, y10, hσ⟩ => ?_) (fun m σ H6 ⟨hm, o6, pu6, ⟨ks, hks, lk, low⟩, y7, y8, y9, y10, hσ⟩ => ?_)
        · subst hσ
          subst hm
          have n0 : 0 < n := n1
          have hq : i / n < n := Nat.div_lt_of_lt_mul hi
          have hr' : i % n < n := Nat.mod_lt _ n0
          -- one, other = k // size, k % size
          have parE : EvA (tCons (tOp (rI CDiv fun i j => .int (i / j)) (tVar 7) (tVar 1)) (tCons (tOp (rI (fun _ j => 0 < j) fun i j => .int (i % j)) (tVar 7) (tVar 1)) tNil)) [some (.ref p), some (vi n), some (vi 2), some (vi way), none, some (vi by'), some (.ref l), some (vi i), y8, y9, y10] H6 [vi (i / n), vi (i % n)] :=
            ea_cons (ev_is (ev_op (ev_var rfl) (ev_var rfl) (rv_I ⟨by omega, by omega⟩)) (by show V.int ((i : Int) / (n : Int)) = V.int ((i / n : Nat) : Int); rw [Int.natCast_ediv])) (ea_cons (ev_is (ev_op (ev_var rfl) (ev_var rfl) (rv_I (by show (0 : Int) < (n : Int); omega))) (by show V.int ((i : Int) % (n : Int)) = V.int ((i % n : Nat) : Int); rw [Int.natCast_emod])) ea_nil)
          refine do_seq (parE H6 (Ex.refl _) _ fun H7 e7 => ⟨_, _, rfl, ?_⟩)
          show tSeq _ _ _ [some (.ref p), some (vi n), some (vi 2), some (vi way), none, some (vi by'), some (.ref l), some (vi i), some (vi (i / n)), some (vi (i % n)), y10] H7
          have someE : EvL (tLst (tCons (tOp (rI (fun _ j => 0 < j) fun i j => .int (i % j)) (tOp (rI0 fun i j => .int (i + j)) (tVar 8) (tVar 9)) (tVar 1)) (tCons (tCB rMax2 (tCons (tVar 8) (tCons (tVar 9) tNil))) (tCons (tCB (fun xs H Q => ∃ i j, xs = [.int i, .int j] ∧ Q (.int (if j < i then j else i)) H) (tCons (tVar 8) (tCons (tVar 9) tNil))) (tCons (tVar 5) (tCons (tVar 8) (tCons (tVar 9) tNil)))))))
              [some (.ref p), some (vi n), some (vi 2), some (vi way), none, some (vi by'), some (.ref l), some (vi i), some (vi (i / n)), some (vi (i % n)), y10] H7 ([(i / n + i % n) % n, max (i / n) (i % n), min (i / n) (i % n), by', i / n, i % n].map vi) :=
            el_lst (ea_cons (ev_is (ev_op (ev_op (ev_var rfl) (ev_var rfl) rv_I0) (ev_var rfl) (rv_I (by show (0 : Int) < (n : Int); omega))) (vi_addmod (i / n) (i % n) n)) (ea_cons (ev_is (ev_max2 (ev_var rfl) (ev_var rfl)) (vi_max _ _)) (ea_cons (ev_is (ev_cb (z := .int (if ((i % n : Nat) : Int) < ((i / n : Nat) : Int) then ((i % n : Nat) : Int) else ((i / n : Nat) : Int))) (ea_cons (ev_var rfl) (ea_cons (ev_var rfl) ea_nil)) (fun H8 _ Q q8 => ⟨_, _, rfl, q8 H8 (Ex.refl _)⟩)) (vi_min _ _)) (ea_cons (ev_var rfl) (ea_cons (ev_var rfl) (ea_cons (ev_var rfl) ea_nil)))))) (by show 6 ≤ 100000; decide)
          refine q_asgL someE fun sl H8 nsl e8 hsl => ?_
          have e68 : Ex H6 H8 := e7.trans e8
          have o8 : Off H H8 p c := o6.trans (.of_ex e68)
          have pu8 := pu6.ex e68
          have hl8 : H8 l = some (.lst (ks.map vi)) := e68 _ _ hks
          obtain ⟨slp, slc⟩ := (pu6.ex e7).fresh nsl
          have lsl : l ≠ sl := fun z => by
            subst z
            rw [e7 _ _ hks] at nsl
            cases nsl
          refine do_app hl8 (ev_var rfl) fun H9 e9 => do_op (do_op (do_ev (ev_var rfl) fun H10 e10 => do_lst (do_cons (do_draw (ev_var rfl) (ev_var rfl) (pu8.ex (e9.trans e10)) (by omega) n1 (by omega) fun k H11 hk o11 pu11 => ?_))))
          have e810 := e9.trans e10
          have hsl11 : H11 sl = some (.lst ([(i / n + i % n) % n, max (i / n) (i % n), min (i / n) (i % n), by', i / n, i % n].map vi)) := o11 _ _ slp slc (e810 _ _ hsl)
          have hl11 : H11 l = some (.lst (ks.map vi)) := o11 _ _ lp lc (e810 _ _ hl8)
          refine ⟨by show 1 ≤ sizeLine; decide, fun r nr => ⟨sl, r, _, _, rfl, rfl, Ex.new nr _ _ hsl11, upd_same, by show 7 ≤ sizeLine; decide, fun r2 nr2 => do_ev (ev_var rfl) fun H12 e12 => ?_⟩⟩
          have e1112 : Ex H11 H12 := ((Ex.new nr).trans (Ex.new nr2)).trans e12
          have seven : ∀ x ∈ [(i / n + i % n) % n, max (i / n) (i % n), min (i / n) (i % n), by', i / n, i % n, k], x < n := by
            have h1 : (i / n + i % n) % n < n := Nat.mod_lt _ n0
            intro x hx
            simp only [List.mem_cons, List.not_mem_nil, or_false] at hx
            rcases hx with rfl | rfl | rfl | rfl | rfl | rfl | rfl
            · exact h1
            · exact Nat.max_lt.mpr ⟨hq, hr'⟩
            · exact Nat.lt_of_le_of_lt (Nat.min_le_left _ _) hq
            · exact hby
            · exact hq
            · exact hr'
            · exact hk
          obtain ⟨kk, hkk⟩ : ∃ kk, [(i / n + i % n) % n, max (i / n) (i % n), min (i / n) (i % n), by', i / n, i % n, k][way]? = some kk := ⟨_, List.getElem?_eq_getElem hw⟩
          have kkn : kk < n := seven kk (List.mem_iff_getElem?.mpr ⟨way, hkk⟩)
          have hat : ([(i / n + i % n) % n, max (i / n) (i % n), min (i / n) (i % n), by', i / n, i % n, k].map vi)[way]? = some (vi kk) := by
            rw [List.getElem?_map, hkk]
            rfl
          refine ⟨r2, _, (way : Int), vi kk, rfl, rfl, sq_of (e12 _ _ upd_same), atI_nat hat, ⟨l, _, _, rfl, rfl, e1112 _ _ hl11, sz_lt (by rw [List.length_map, lk]; omega), ?_⟩⟩
          refine ⟨rfl, ((o8.trans (.of_ex e810)).trans (o11.trans (.of_ex e1112))).upd nlH, (pu11.ex e1112).upd lp lc, ⟨ks ++ [kk], ?_, by rw [List.length_append, lk]; rfl, fun x hx => ?_⟩, _, _, _, _, rfl⟩
          · rw [upd_same, List.map_append]
            rfl
          · rcases List.mem_append.mp hx with z | z
            · exact low x z
            · rw [List.mem_singleton.mp z]
              exact kkn
        · subst hσ
          subst hm
          have fin : ∀ (H' : Hp) (ks : List Nat) (t' : Nat), Off H H' p c → Pur H' p c t' → t' ≤ t + 100 → H' l = some (.lst (ks.map vi)) → ks.length = n * n → (∀ k ∈ ks, k < n) → (tCB (rTupOf K) (tCons (tVar 6) tNil)) [some (.ref p), some (vi n), some (vi 2), some (vi way), none, some (vi by'), some (.ref l), y7, y8, y9, y10] H' Q := fun H' ks t' o' pu' le hl' lk' low' =>
            do_evU (eu_tupL (K := K) (ev_var rfl) (sq_of hl')) fun r H2 nr e2 hr => q _ ks t' H2 (o'.trans (.of_ex e2)) (pu'.ex e2) le ⟨r, rfl, st_of hr⟩ (tab_of (by rw [lk', Nat.pow_two]) low')
          refine do_seq (do_if (do_test (do_op (do_draw (ev_var rfl) ev_c pu6 (by omega) (by decide) (by decide) fun k H7 hk o7 pu7 => do_ev ev_c fun H8 e8 => rv_eq rfl H8 (Ex.refl _) _ fun H9 e9 => ⟨_, rfl, ?_⟩))))
          have e79 := e8.trans e9
          have o9 : Off H H9 p c := (o6.trans o7).trans (.of_ex e79)
          have pu9 := pu7.ex e79
          have hl9 : H9 l = some (.lst (ks.map vi)) := e79 _ _ (o7 _ _ lp lc hks)
          split
          · refine do_asg (do_draw (ev_var rfl) (ev_var rfl) pu9 (by omega) n1 (by omega) fun v H10 hv o10 pu10 => do_sub (do_ev (ev_var rfl) fun H11 e11 => do_draw (n := n * n) (ev_var rfl) (ev_is (ev_op (ev_var rfl) (ev_var rfl) (rv_I (.inl ⟨by omega, by omega⟩))) (by show V.int ((n : Int) * (n : Int)) = V.int ((n * n : Nat) : Int); rw [Int.natCast_mul])) (pu10.ex e11) (by omega) nn1 (by omega) fun j H12 hj o12 pu12 => ?_))
            have hl12 : H12 l = some (.lst (ks.map vi)) := o12 _ _ lp lc (e11 _ _ (o10 _ _ lp lc hl9))
            refine ⟨l, _, (j : Int), j, rfl, rfl, hl12, ixN_nat (by rw [List.length_map, lk]; exact hj), ?_⟩
            refine fin _ (ks.set j v) _ (((o9.trans o10).trans ((Off.of_ex e11).trans o12)).upd nlH) (pu12.upd lp lc) (by omega) (by rw [upd_same, List.map_set]) (by rw [List.length_set, lk]) fun x hx => ?_
            rcases List.mem_or_eq_of_mem_set hx with z | z
            · exact low x z
            · rw [z]
              exact hv
          · exact fin _ ks _ o9 pu9 (by omega) hl9 lk low
end
end K24
end
section
namespace K24
open PySem PySem.Spec PyProof.Rows L2 Evl RZ Dw M20
section
variable {P : Program} {w : World} {K : PySem.W.Frag} {mg : Str → Option Value} {base : Heap}
/-! ### a model drawn -/
def sp_model (K : PySem.W.Frag) : Sp := fun vs H Q _ => ∃ (p c : Addr) (t n : Nat) (u : V) (sg : List (Str × Nat)), vs = [.ref p, u, vi n] ∧ Pur H p c t ∧ t ≤ 70000 ∧ 1 ≤ n ∧ n ≤ 6 ∧ Sig K H u sg ∧ SigOk sg ∧ ∀ v ts t' H', Off H H' p c → Pur H' p c t' → t' ≤ t + 400 → Mdl K H' v n ts → MdlOk sg n ts → Q v H'
theorem c_model (T : Txt mg) (D : Df K mg "_law_model" s_mdl ["_law_purse_here", "_law_signature_here", "_law_size"]) (c_table : Cl P w K mg base 3 "_law_table" (sp_table K)) : Cl P w K mg base 4 "_law_model" (sp_model K) := by
  refine cl_of (k := 3) D sc_mdl (fun vs H Q E h => ?_) (fun f cdv A outer s H vs Q E hr h => ?_)
  · obtain ⟨p, c, t, n, u, sg, rfl, _⟩ := h
    rfl
  · obtain ⟨p, c, t, n, u, sg, rfl, pu, t1, n1, n6, hG, sok, q⟩ := h
    refine ⟨_, (pss_one (ps_ret (pe_tup (pa_cons (pv 2) (pa_cons (pe_callTy call_tuple_of (by rfl) T.z_tuple (by decide +kernel) (pa_cons (pe_lc (own := [("_law_name", 3), ("_law_places", 4)]) (g := (gTup _ 2 (gCons (gName 3) (gCons (gName 4) gNil)))) (by rfl) sc_mdl.nd (pi_tup (pv 1)) (blkOk_by (own := [("_law_name", 3), ("_law_places", 4)]) (N := ["_law_purse_here", "_law_signature_here", "_law_size", "_law_name", "_law_places"]) (sc := (defScope s_mdl)) (by decide +kernel)) (fun _ _ _ _ _ => (pg_tup (by rfl) (pgs_cons (pg_name (i := 3) sc_mdl.nd rfl (.inl rfl)) (pgs_cons (pg_name (i := 4) sc_mdl.nd rfl (.inl rfl)) pgs_nil)))) (fun _ _ _ _ _ => pts_nil) (fun _ _ _ _ _ => (pe_cl c_table hr (by first | decide | omega) (by rfl) (pa_cons (pv 0) (pa_cons (pv 2) (pa_cons (pv 4) pa_nil)))))) pa_nil)) pa_nil))))), ?_⟩
    obtain ⟨a, us, rfl, hS, hP⟩ := id hG
    have lS : us.length = sg.length := paired_len hP
    have l4 := sok.l4
    refine do_ret (do_tup (do_cons (do_ev (ev_var rfl) fun H1 e1 => do_cons (do_cb (do_cons ?_)))))
    have hS1 : SqT K H1 a us := ex_t e1 hS
    have pu1 := pu.ex e1
    refine do_lcIt walk_tup (fun R r => w_tup (K := K) (ev_var rfl) hS1 H1 (Ex.refl _) R r) (fun Dl i H' => H1 Dl = none ∧ Off H1 H' p c ∧ (∃ t', Pur H' p c t' ∧ t' ≤ t + 100 * i) ∧ ∃ ws ts, H' Dl = some (.lst ws) ∧ Paired (Nats K H') ws ts ∧ ts.length = i ∧ ∀ (j : Nat) d tb, sg[j]? = some d → ts[j]? = some tb → Tab n d.2 tb)
      (fun Dl H2 e2 nD => ⟨fresh_back e2 nD, .of_ex (e2.trans (Ex.new nD)), ⟨t, pu1.ex (e2.trans (Ex.new nD)), by omega⟩, [], [], upd_same, .nil, rfl, fun j d tb _ h2 => by rw [List.getElem?_nil] at h2; cases h2⟩) (fun Dl i H' _ ⟨_, o, _⟩ => o.et pu1 _ _ hS1) (fun Dl i x H2 H3 hi ⟨nD, o2, ⟨t', pu2, lt'⟩, ws, ts, hws, pws, lts, tabs⟩ y => ?_) (fun Dl H2 ⟨nD, o2, ⟨t', pu2, lt'⟩, ws, ts, hws, pws, lts, tabs⟩ => ?_)
    · obtain ⟨rfl, hx⟩ := y
      have hi2 : i < sg.length := by rw [← lS]; exact hi
      obtain ⟨x', ex', b, hb, db⟩ := paired_get hP (List.getElem?_eq_getElem hi2)
      have : x' = x := Option.some.inj (ex'.symm.trans hx)
      subst this
      subst hb
      obtain ⟨Dp1, Dc1⟩ := pu1.fresh nD
      have db3 : SqT K H3 b [.str sg[i].1, vi sg[i].2] := o2.et pu1 _ _ (ex_t e1 db)
      refine ⟨b, _, rfl, db3, rfl, _, _, rfl, _, _, rfl, rfl, rfl, iteT ?_⟩
      refine ea_cons (ev_var rfl) (ea_cons (ev_var rfl) (ea_cons (ev_var rfl) ea_nil)) H3 (Ex.refl H3) _ fun H4 e4 => ⟨p, c, t', n, sg[i].2, rfl, pu2.ex e4, by omega, n1, n6, sok.pl _ (List.getElem_mem hi2), fun v tb t2 H5 o5 pu5 l5 nt tt => ?_⟩
      have o35 : Off H3 H5 p c := (Off.of_ex e4).trans o5
      have hws5 : H5 Dl = some (.lst ws) := o35 _ _ Dp1 Dc1 hws
      have lw : ws.length = i := by rw [paired_len pws, lts]
      have et : ET K H5 (upd H5 Dl (.lst (ws ++ [v]))) := ET.refl.upd hws5
      refine ⟨ws, hws5, sz_lt (by omega), nD, (o2.trans o35).upd nD, ⟨t2, pu5.upd Dp1 Dc1, by omega⟩, ws ++ [v], ts ++ [tb], upd_same, paired_snoc (nt.et et) (paired_imp (fun _ _ z => z.et ((o35.et pu2).trans et)) pws), by rw [List.length_append, lts]; rfl, fun j d tb' h1 h2 => ?_⟩
      by_cases hj : j < ts.length
      · rw [List.getElem?_append_left hj] at h2
        exact tabs j d tb' h1 h2
      · have hj2 : j < (ts ++ [tb]).length := (List.getElem?_eq_some_iff.mp h2).1
        rw [List.length_append, List.length_singleton] at hj2
        have ej : j = ts.length := by omega
        subst ej
        rw [List.getElem?_append_right (Nat.le_refl _), Nat.sub_self] at h2
        cases Option.some.inj h2
        rw [lts, List.getElem?_eq_getElem hi2] at h1
        cases Option.some.inj h1
        exact tt
    · refine ⟨Dl, ws, rfl, .inl ⟨sq_of hws, fun r nr => ⟨by show 2 ≤ sizeLine; decide, fun m nm => ?_⟩⟩⟩
      have e24 : Ex H2 (upd (upd H2 r (.tup ws)) m (.tup [vi n, .ref r])) := (Ex.new nr).trans (Ex.new nm)
      refine q _ ts t' _ (((Off.of_ex e1).trans o2).trans (.of_ex e24)) (pu2.ex e24) (by omega) ⟨m, .ref r, rfl, st_of upd_same, r, ws, rfl, st_of (Ex.new nm _ _ upd_same), paired_imp (fun _ _ z => z.ex e24) pws⟩ ?_
      exact { len := by rw [lts, lS], n1 := n1, n6 := n6, tab := fun i h1 h2 => tabs i _ _ (List.getElem?_eq_getElem h1) (List.getElem?_eq_getElem h2) }
/-! ### the law's own renaming -/
section
variable {σ : L2.St} {H : Hp} {ta tb te : TE}
theorem ev_mulN {a b : Nat} (ha : Ev ta σ H (vi a)) (hb : Ev tb σ H (vi b)) (la : a ≤ 1000) (lb : b ≤ 1000) : Ev (tOp (rI CMul fun i j => .int (i * j)) ta tb) σ H (vi (a * b)) := ev_is (ev_op ha hb (rv_I (.inl ⟨by omega, by omega⟩))) (by show V.int ((a : Int) * (b : Int)) = V.int ((a * b : Nat) : Int); rw [Int.natCast_mul])
theorem ev_addN {a b : Nat} (ha : Ev ta σ H (vi a)) (hb : Ev tb σ H (vi b)) : Ev (tOp (rI0 fun i j => .int (i + j)) ta tb) σ H (vi (a + b)) := ev_is (ev_op ha hb rv_I0) (by show V.int ((a : Int) + (b : Int)) = V.int ((a + b : Nat) : Int); rw [Int.natCast_add])
theorem ev_modN {a b : Nat} (ha : Ev ta σ H (vi a)) (hb : Ev tb σ H (vi b)) (b0 : 0 < b) : Ev (tOp (rI (fun _ j => 0 < j) fun i j => .int (i % j)) ta tb) σ H (vi (a % b)) := ev_is (ev_op ha hb (rv_I (by show (0 : Int) < (b : Int); omega))) (by show V.int ((a : Int) % (b : Int)) = V.int ((a % b : Nat) : Int); rw [Int.natCast_emod])
theorem ev_divN {a b : Nat} (ha : Ev ta σ H (vi a)) (hb : Ev tb σ H (vi b)) (b0 : 0 < b) (la : a ≤ 1000) (lb : b ≤ 1000) : Ev (tOp (rI CDiv fun i j => .int (i / j)) ta tb) σ H (vi (a / b)) := ev_is (ev_op ha hb (rv_I ⟨by omega, by omega⟩)) (by show V.int ((a : Int) / (b : Int)) = V.int ((a / b : Nat) : Int); rw [Int.natCast_ediv])
def rInt1 : List V → Hp → VK → Prop := fun xs H Q => (∃ i, xs = [.int i] ∧ Q (.int i) H) ∨ ∃ k, xs = [.bl k] ∧ Q (.int (if k then 1 else 0)) H
theorem ev_intB {b : Bool} (h : Ev te σ H (.bl b)) : Ev (tCB rInt1 (tCons te tNil)) σ H (vi (if b = true then 1 else 0)) := fun H1 e Q q => h H1 e _ fun H2 e2 => .inr ⟨b, rfl, by
  have z := q H2 e2
  cases b <;> exact z⟩
def rLstOf (K : PySem.W.Frag) : List V → Hp → VK → Prop := fun xs H Q => ∃ p ys, xs = [.ref p] ∧ (SqL K H p ys ∨ SqT K H p ys) ∧ ∀ l, H l = none → Q (.ref l) (upd H l (.lst ys))
theorem el_lstT {xs : List V} {p : Addr} (h : Ev te σ H (.ref p)) (hp : SqT K H p xs) : EvL (tCB (rLstOf K) (tCons te tNil)) σ H xs := fun H1 e Q q =>
  h H1 e _ fun H2 e2 => ⟨p, xs, rfl, .inr (ex_t (e.trans e2) hp), fun l nl => q l _ (fresh_back e2 nl) (e2.trans (Ex.new nl)) upd_same⟩
theorem ev_ixN {a : Addr} {ns : List Nat} {k : Nat} (ha : Ev ta σ H (.ref a)) (hb : Ev tb σ H (vi k)) (h : SqT K H a (ns.map vi)) (hk : k < ns.length) : Ev (tOp (rIxT K) ta tb) σ H (vi (g ns k)) := ev_op ha hb (rv_ixT h (atI_vi (k := k) (by rw [List.getElem?_map, g_eq hk]; rfl)))
end
theorem c_led (T : Txt mg) (D : Df K mg "_law_led" s_led ["_law_signature_here", "_law_model_here", "_law_order_here"]) : Cl P w K mg base 1 "_law_led" (sp_renamed K) := by
  refine cl_of (k := 0) D sc_led (fun vs H Q E h => ?_) (fun f cdv A outer s H vs Q E hr h => ?_)
  · obtain ⟨p, ⟨⟨u, v, x, rfl, _⟩, _⟩, _⟩ := h
    rfl
  · obtain ⟨⟨sg, n, ts, o⟩, ⟨⟨u, v, x, rfl, hG, hM, hO⟩, sok, mok, ord⟩, q⟩ := h
    refine ⟨_, (pss_cons (ps_asg (pv 1) (pg_tup (by rfl) (pgs_cons (pg_name (i := 3) sc_led.nd rfl (.inl rfl)) (pgs_cons (pg_name (i := 4) sc_led.nd rfl (.inl rfl)) pgs_nil))))
      (pss_cons (ps_set (i := 5) sc_led.nd rfl (.inl rfl) (pe_lst pa_nil))
      (pss_cons (ps_for PassesOwn.never (by rfl) (pi_zipA (by rfl) T.z_zip (pa_cons (pv 0) (pa_cons (pv 4) pa_nil))) (pg_tup (by rfl) (pgs_cons (pg_tup (by rfl) (pgs_cons (pg_name (i := 6) sc_led.nd rfl (.inl rfl)) (pgs_cons (pg_name (i := 7) sc_led.nd rfl (.inl rfl)) pgs_nil))) (pgs_cons (pg_name (i := 8) sc_led.nd rfl (.inl rfl)) pgs_nil)))
        (pss_cons (ps_set (i := 9) sc_led.nd rfl (.inl rfl) (pe_callTy call_list_of (by rfl) T.z_list (by decide +kernel) (pa_cons (pv 8) pa_nil)))
        (pss_cons (ps_for PassesOwn.never (by rfl) (pi_range1 (by rfl) T.z_range (pa_cons (pe_callB call_len_seq (by rfl) T.z_len PySem.boot_len (pa_cons (pv 8) pa_nil)) pa_nil)) (pg_name (i := 10) sc_led.nd rfl (.inl rfl))
          (pss_cons (ps_set (i := 11) sc_led.nd rfl (.inl rfl) (pe_op op_mul (pe_ix ix_tup (pv 2) (pe_op op_mod (pv 10) (pv 3)) (fun _ _ => rfl)) (pe_callTy call_int1 (by rfl) T.z_int (by decide +kernel) (pa_cons (pe_cmpR op_gt (pv 7) pe_int (nomark _)) pa_nil))))
          (pss_cons (ps_set (i := 11) sc_led.nd rfl (.inl rfl) (pe_op op_add (pv 11) (pe_op op_mul (pe_op op_mul (pe_ix ix_tup (pv 2) (pe_op op_mod (pe_op op_fdiv (pv 10) (pv 3)) (pv 3)) (fun _ _ => rfl)) (pv 3)) (pe_callTy call_int1 (by rfl) T.z_int (by decide +kernel) (pa_cons (pe_cmpR op_eq (pv 7) pe_int (nomark _)) pa_nil)))))
          (pss_one (ps_asg (pe_ix ix_tup (pv 2) (pe_ix ix_tup (pv 8) (pv 10) (fun _ _ => rfl)) (fun _ _ => rfl)) (pg_sub (pv 9) (pv 11) set_list))))))
        (pss_one (ps_expr (pe_bm PySem.F.plainAttrs_list PySem.F.slot_list_append PySem.F.type_list_append mt_append (pv 5) (pa_cons (pe_callTy call_tuple_of (by rfl) T.z_tuple (by decide +kernel) (pa_cons (pv 9) pa_nil)) pa_nil)))))))
      (pss_one (ps_ret (pe_tup (pa_cons (pv 3) (pa_cons (pe_callTy call_tuple_of (by rfl) T.z_tuple (by decide +kernel) (pa_cons (pv 5) pa_nil)) pa_nil)))))))), ?_⟩
    replace sok : SigOk sg := sok
    replace mok : MdlOk sg n ts := mok
    replace ord : Ord n o := ord
    have n1 := mok.n1
    have n6 := mok.n6
    obtain ⟨z, tv, rfl, hZ, hT⟩ := id hM
    obtain ⟨a, us, rfl, hS, hP⟩ := id hG
    obtain ⟨b, tvs, rfl, hB, hR⟩ := id hT
    obtain ⟨oa, rfl, hO'⟩ := id hO
    replace hP : Paired (Deed K H) us sg := hP
    replace hR : Paired (Nats K H) tvs ts := hR
    replace hO' : SqT K H oa (o.map vi) := hO'
    have lS : us.length = sg.length := paired_len hP
    have lT : tvs.length = ts.length := paired_len hR
    have lM : ts.length = sg.length := mok.len
    refine ⟨.ref z, rfl, z, _, rfl, hZ, rfl, _, _, rfl, _, _, rfl, rfl, ?_⟩
    refine q_asgL (el_lst ea_nil (Nat.zero_le _)) fun m H1 nm e1 hm => ?_
    refine q_zipT (ea_cons (ev_var rfl) (ea_cons (ev_var rfl) ea_nil)) (ex_t e1 hS) (ex_t e1 hB) (by rw [lS, lT, lM]) (fun i σ H' => Ex H H' ∧ (∃ ws, H' m = some (.lst ws) ∧ Paired (Nats K H') ws ((rens n o sg ts).take i)) ∧ ∃ y6 y7 y8 y9 y10 y11, σ = [some (.ref a), some (.ref z), some (.ref oa), some (vi n), some (.ref b), some (.ref m), y6, y7, y8, y9, y10, y11])
      (fun H2 e2 => ⟨e1.trans e2, ⟨[], e2 _ _ hm, .nil⟩, none, none, none, none, none, none, rfl⟩) (fun i σ H' _ ⟨e, _⟩ => ⟨ex_t e hS, ex_t e hB⟩) (fun i d tv p σ H2 hd ht ⟨e2, ⟨ws, hws, pws⟩, y6, y7, y8, y9, y10, y11, hσ⟩ np => ?_) (fun σ H2 ⟨e2, ⟨ws, hws, pws⟩, y6, y7, y8, y9, y10, y11, hσ⟩ => ?_)
    · subst hσ
      have hi : i < sg.length := by rw [← lS]; exact (List.getElem?_eq_some_iff.mp hd).1
      have hi2 : i < ts.length := by rw [lM]; exact hi
      obtain ⟨d', ed', c, hc, dc⟩ := paired_get hP (List.getElem?_eq_getElem hi)
      have : d' = d := Option.some.inj (ed'.symm.trans hd)
      subst this
      subst hc
      obtain ⟨t', et', r, hr', nt⟩ := paired_get hR (List.getElem?_eq_getElem hi2)
      have : t' = tv := Option.some.inj (et'.symm.trans ht)
      subst this
      subst hr'
      have e3 : Ex H2 (upd H2 p (.tup [.ref c, .ref r])) := Ex.new np
      have e03 : Ex H (upd H2 p (.tup [.ref c, .ref r])) := e2.trans e3
      have p2 : sg[i].2 ≤ 2 := sok.pl _ (List.getElem_mem hi)
      have tab := mok.tab i hi hi2
      generalize hpl : sg[i].2 = pl at *
      generalize htb : ts[i] = tb at *
      have big : n ^ pl ≤ 36 := by
        have h1 : n ^ pl ≤ 6 ^ pl := Nat.pow_le_pow_left n6 pl
        have h2 : 6 ^ pl ≤ 6 ^ 2 := Nat.pow_le_pow_right (by decide) p2
        omega
      refine ⟨p, _, rfl, st_of upd_same, rfl, _, _, rfl, ⟨c, _, rfl, ex_t e03 dc, rfl, _, _, rfl, _, _, rfl, rfl, ?_⟩⟩
      refine ⟨_, _, rfl, rfl, ?_⟩
      refine q_asgL (el_lstT (K := K) (ev_var rfl) (ex_t e03 nt)) fun l H4 nl e4 hl => ?_
      have nlH : H l = none := fresh_back e03 nl
      have lm : l ≠ m := fun z => by
        subst z
        rw [e3 _ _ hws] at nl
        cases nl
      have e04 : Ex H H4 := e03.trans e4
      refine q_forR1 (n := ((n ^ pl : Nat) : Int)) (ea_cons (ev_is (ev_lenT (ev_var rfl) (ex_t e04 nt)) (by rw [List.length_map, tab.len])) ea_nil) ⟨by omega, by omega⟩
        (fun k σ H' => Ex (upd H2 p (.tup [.ref c, .ref r])) H' ∧ H' l = some (.lst ((led n pl o tb k).map vi)) ∧ ∃ y10 y11, σ = [some (.ref a), some (.ref z), some (.ref oa), some (vi n), some (.ref b), some (.ref m), some (.str sg[i].1), some (vi pl), some (.ref r), some (.ref l), y10, y11])
        (fun H5 e5 => ⟨e4.trans e5, e5 _ _ hl, _, _, rfl⟩) (fun k σ H5 hk ⟨e5, hl5, y10, y11, hσ⟩ => ?_) (fun σ H5 ⟨e5, hl5, y10, y11, hσ⟩ => ?_)
      · subst hσ
        have hk' : k < n ^ pl := by omega
        have n0 : 0 < n := n1
        have e05 : Ex H H5 := e03.trans e5
        have k1 : k % n < o.length := by rw [ord.len]; exact Nat.mod_lt _ n0
        have k2 : k / n % n < o.length := by rw [ord.len]; exact Nat.mod_lt _ n0
        have g1 : g o (k % n) < n := ord.low _ (Nat.mod_lt _ n0)
        have g2 : g o (k / n % n) < n := ord.low _ (Nat.mod_lt _ n0)
        have gm : g o (k / n % n) * n ≤ 36 := Nat.mul_le_mul (show g o (k / n % n) ≤ 6 by omega) n6
        have kt : k < tb.length := by rw [tab.len]; exact hk'
        have gt : g tb k < o.length := by rw [ord.len]; exact tab.low k hk'
        refine q_asg (v := vi (g o (k % n) * (if 0 < pl then 1 else 0))) (ev_is (ev_mulN (ev_ixN (K := K) (ev_var rfl) (ev_modN (ev_var rfl) (ev_var rfl) n0) (ex_t e05 hO') k1) (ev_intB (b := decide ((pl : Int) > 0)) (ev_op (ev_var rfl) ev_c rv_I0)) (by omega) (by split <;> omega)) (by simp)) fun H6 e6 => ?_
        have e56 := e05.trans e6
        refine q_asg (v := vi (spot n pl o k)) (ev_is (ev_addN (ev_var rfl) (ev_mulN (ev_mulN (ev_ixN (K := K) (ev_var rfl) (ev_modN (ev_divN (ev_var rfl) (ev_var rfl) n0 (by omega) (by omega)) (ev_var rfl) n0) (ex_t e56 hO') k2) (ev_var rfl) (by omega) (by omega)) (ev_intB (b := decide (vi pl = V.int 2)) (ev_op (ev_var rfl) ev_c (rv_eq rfl))) (by omega) (by split <;> omega))) ?_) fun H7 e7 => ?_
        · unfold spot
          by_cases h2 : pl = 2
          · subst h2
            rfl
          · have h3 : ¬ (vi pl = V.int 2) := fun z => h2 (by have := V.int.inj z; omega)
            simp [h2, h3]
        have e57 := e56.trans e7
        have e67 := e6.trans e7
        refine s_setL (e67 _ _ hl5) (ev_ixN (K := K) (ev_var rfl) (ev_ixN (K := K) (ev_var rfl) (ev_var rfl) (ex_t e57 nt) kt) (ex_t e57 hO') gt) (ev_var rfl) (ev_var rfl) (by rw [List.length_map, led_len, tab.len]; exact spot_low p2 ord hk') fun H8 e8 => ?_
        refine ⟨((e5.trans e67).trans e8).mut nl, ?_, _, _, rfl⟩
        rw [upd_same, ← List.map_set]
        rfl
      · subst hσ
        have e05 : Ex H H5 := e03.trans e5
        have et5 : (led n pl o tb ((n ^ pl : Nat) : Int).toNat).map vi = (ren n pl o tb).map vi := by rw [Int.toNat_natCast, led_ren p2 ord tab]
        rw [et5] at hl5
        have hm5 : H5 m = some (.lst ws) := e5 _ _ (e3 _ _ hws)
        refine s_appU hm5 (ev_var rfl) (eu_tupL (K := K) (ev_var rfl) (sq_of hl5)) ?_ fun r2 H6 nr2 e6 hr2 => ?_
        · have l1 := paired_len pws
          rw [List.length_take, rens_len lM] at l1
          have := sok.l4
          omega
        · have e06 : Ex H H6 := e05.trans e6
          have hm6 : H6 m = some (.lst ws) := e6 _ _ hm5
          refine ⟨e06.mut nm, ⟨ws ++ [.ref r2], upd_same, ?_⟩, _, _, _, _, _, _, rfl⟩
          have et : ET K H6 (upd H6 m (.lst (ws ++ [.ref r2]))) := ET.refl.upd hm6
          rw [List.take_add_one, rens_at hi hi2, hpl, htb]
          exact paired_snoc (Nats.et et ⟨r2, rfl, st_of hr2⟩) (paired_imp (fun _ _ z => Nats.et (ET.trans (Dw.Ex.et (e3.trans (e5.trans e6))) et) z) pws)
    · subst hσ
      have full : (rens n o sg ts).take us.length = rens n o sg ts := List.take_of_length_le (by rw [rens_len lM, lS]; exact Nat.le_refl _)
      rw [full] at pws
      refine do_ret (do_tup (do_cons (do_ev (ev_var rfl) fun H3 e3 => do_cons (do_evU (eu_tupL (K := K) (ev_var rfl) (sq_of (e3 _ _ hws))) fun r H4 nr e4 hr4 => ⟨by show 2 ≤ sizeLine; decide, fun r2 nr2 => ?_⟩))))
      have e24 := (e3.trans e4).trans (Ex.new (o := .tup [vi n, .ref r]) nr2)
      exact q _ _ (e2.trans e24) ⟨r2, .ref r, rfl, st_of upd_same, r, ws, rfl, st_of (Ex.new nr2 _ _ hr4), paired_imp (fun _ _ z => Nats.ex e24 z) pws⟩
end
end K24
end
section
namespace K24
open PySem PySem.Spec PyProof.Rows L2 Evl RZ Dw M20
theorem idx_int (k : Nat) : ∀ o : List Nat, (o.map fun n => ((n : Nat) : Int)).idxOf ((k : Nat) : Int) = o.idxOf k
  | [] => rfl
  | a :: o => by
    rw [List.map_cons, List.idxOf_cons, List.idxOf_cons, idx_int k o]
    by_cases h : a = k
    · subst h
      simp
    · have h2 : ¬ ((a : Int) = (k : Int)) := by omega
      rw [beq_false_of_ne h, beq_false_of_ne h2]
section
variable {P : Program} {w : World} {K : PySem.W.Frag} {mg : Str → Option Value} {base : Heap}
end
end K24
end
section
namespace K24
open PySem PySem.Spec PyProof.Rows L2 Evl RZ Dw M20
/-! ### renaming of whole models -/
section
variable {n : Nat} {a b o : List Nat} {sg : List (Str × Nat)} {ts : List (List Nat)}
end
/-! ### more readings -/
section
variable {K : PySem.W.Frag} {σ : L2.St} {H : Hp} {ta tb te : TE} {P R : V → Hp → Prop} {z : V}
theorem eu_trg {n : Nat} (h : Ev te σ H (vi n)) (hn : n ≤ 1000) : EvU (tTupRg (tRg1 te)) σ H ((List.range n).map vi) := fun H1 e Q q =>
  h H1 e _ fun H2 e2 => ⟨(n : Int), rfl, ⟨by omega, by omega, by omega, by omega, by omega⟩, fun r nr => by
    rw [rg0]
    exact q r _ (fresh_back e2 nr) (e2.trans (Ex.new nr)) upd_same⟩
end
end K24
end
section
namespace K24
open PySem PySem.Spec PyProof.Rows L2 Evl RZ Dw M20 M25
section
variable {P : Program} {w : World} {K : PySem.W.Frag} {mg : Str → Option Value} {base : Heap}
/-! ### rows of numbers -/
/-- a list of rows -/
def RowsL (K : PySem.W.Frag) (H : Hp) (v : V) (rs : List (List Nat)) : Prop := ∃ a vs, v = .ref a ∧ H a = some (.lst vs) ∧ Paired (Nats K H) vs rs
theorem RowsL.ex {H H' : Hp} {v : V} {rs : List (List Nat)} (e : Ex H H') (h : RowsL K H v rs) : RowsL K H' v rs := let ⟨a, vs, q, s, p⟩ := h; ⟨a, vs, q, e _ _ s, paired_imp (fun _ _ z => z.ex e) p⟩
theorem pairs_rows (L : List (List Nat)) (m : Nat) : ((List.range L.length).flatMap fun i => (List.range m).map fun k => (i, k)).map (fun p => L.getD p.1 [] ++ [p.2]) = L.flatMap fun r => (List.range m).map fun k => r ++ [k] := by
  rw [List.map_flatMap]
  have e : (List.range L.length).map (fun i => L.getD i []) = L := by
    apply List.ext_getElem?
    intro i
    by_cases h : i < L.length
    · rw [List.getElem?_map, List.getElem?_range h]
      show some (L.getD i []) = _
      rw [List.getD_eq_getElem?_getD, List.getElem?_eq_getElem h]
      rfl
    · rw [List.getElem?_eq_none_iff.mpr (by simp; omega), List.getElem?_eq_none_iff.mpr (by omega)]
  conv => rhs; rw [← e, List.flatMap_map]
  congr 1
  funext i
  rw [List.map_map]
  rfl
theorem rows_length (n : Nat) : ∀ p, (rows n p).length = n ^ p
  | 0 => rfl
  | p + 1 => by
    show ((rows n p).flatMap _).length = _
    rw [List.length_flatMap, Nat.pow_succ]
    have : (rows n p).map (fun r => ((List.range n).map fun k => r ++ [k]).length) = List.replicate (rows n p).length n := by
      rw [List.eq_replicate_iff]
      refine ⟨by rw [List.length_map], fun b hb => ?_⟩
      obtain ⟨r, _, rfl⟩ := List.mem_map.mp hb
      simp
    rw [this, List.sum_replicate_nat, rows_length n p]
theorem stb_nats {β : Type} (f : β → List Nat) : StbB (fun v b H => Nats K H v (f b)) := fun _ _ _ _ e h => h.et e.et
def sp_rows_below (K : PySem.W.Frag) : Sp := spX (fun (p : Nat × Nat) vs _ => vs = [vi p.1, vi p.2] ∧ p.1 ≤ 6 ∧ p.2 ≤ 2) (fun p v H => RowsL K H v (rows p.1 p.2))
theorem c_rows_below (T : Txt mg) (D : Df K mg "rows_below" s_rows_below ["size", "many"]) : Cl P w K mg base 1 "rows_below" (sp_rows_below K) := by
  refine cl_of (k := 0) D sc_rows_below (fun vs H Q E h => ?_) (fun f cdv A outer s H vs Q E hr h => ?_)
  · obtain ⟨p, ⟨rfl, _⟩, _⟩ := h
    rfl
  · obtain ⟨⟨n, m⟩, ⟨rfl, hn, hm⟩, q⟩ := h
    refine ⟨_, (pss_cons (ps_set (i := 2) sc_rows_below.nd rfl (.inl rfl) (pe_lst (pa_cons (pe_tup pa_nil) pa_nil)))
      (pss_cons (ps_for PassesOwn.never (by rfl) (pi_range1 (by rfl) T.z_range (pa_cons (pv 1) pa_nil)) (pg_name (i := 3) sc_rows_below.nd rfl (.inl rfl))
        (pss_one (ps_setLc2 (i := 2) (own := [("row", 4), ("number", 5)]) (g := (gName 4)) (g1 := (gName 5)) (vs1 := [5]) (by rfl) sc_rows_below.nd rfl rfl (sw_true rfl rfl rfl (by decide +kernel)) (pi_list (pv 2)) (blkOk_by (own := [("row", 4), ("number", 5)]) (N := ["size", "many", "rows", "step", "row", "number"]) (sc := (defScope s_rows_below)) (by decide +kernel)) (by decide) (fun _ _ _ _ _ => (pg_name (i := 4) sc_rows_below.nd rfl (.inl rfl))) (fun _ _ _ _ _ => pts_nil) (fun _ _ _ _ _ => (pi_range1 (by rfl) T.z_range (pa_cons (pv 0) pa_nil))) (fun _ _ _ _ _ => (pg_name (i := 5) sc_rows_below.nd rfl (.inl rfl))) (fun _ _ _ _ _ => pts_nil) (fun _ _ _ _ _ => (pe_op (op_catAK K) (pv 4) (pe_tup (pa_cons (pv 5) pa_nil)))))))
      (pss_one (ps_ret (pv 2))))), ?_⟩
    replace hn : n ≤ 6 := hn
    replace hm : m ≤ 2 := hm
    refine do_set (do_lst (do_cons (do_tup (do_nil ⟨Nat.zero_le _, fun r nr => do_nil ⟨by show 1 ≤ sizeLine; decide, fun f0 nf0 => ?_⟩⟩))))
    have e1 : Ex H (upd (upd H r (.tup [])) f0 (.lst [.ref r])) := (Ex.new nr).trans (Ex.new nf0)
    have hf0 : (upd (upd H r (.tup [])) f0 (.lst [.ref r])) f0 = some (.lst [.ref r]) := upd_same
    have hr0 : (upd (upd H r (.tup [])) f0 (.lst [.ref r])) r = some (.tup []) := Ex.new nf0 _ _ upd_same
    generalize upd (upd H r (.tup [])) f0 (.lst [.ref r]) = H1 at *
    refine q_forR1 (n := (m : Int)) (ea_cons (ev_var rfl) ea_nil) ⟨by omega, by omega⟩ (fun i σ H' => Ex H H' ∧ ∃ (v : V) (y3 : Option V), RowsL K H' v (rows n i) ∧ σ = [some (vi n), some (vi m), some v, y3, none, none])
      (fun H2 e2 => ⟨e1.trans e2, .ref f0, none, ⟨f0, [.ref r], rfl, e2 _ _ hf0, .cons ⟨r, rfl, st_of (e2 _ _ hr0)⟩ .nil⟩, rfl⟩) (fun i σ H2 hi ⟨e2, v, y3, hv, hσ⟩ => ?_) (fun σ H2 ⟨e2, v, y3, hv, hσ⟩ => ?_)
    · subst hσ
      obtain ⟨a, us, rfl, ha, pus⟩ := hv
      have li : us.length = n ^ i := by rw [paired_len pus, rows_length]
      have lu : us.length ≤ 10000 := by
        rw [li]
        have i1 : i ≤ 1 := by omega
        have : n ^ i ≤ n ^ 1 ∨ i = 0 := by
          rcases Nat.eq_zero_or_pos i with z | z
          · exact .inr z
          · have : i = 1 := by omega
            rw [this]; exact .inl (Nat.le_refl _)
        rcases this with z | z
        · rw [Nat.pow_one] at z; omega
        · rw [z, Nat.pow_zero]; omega
      refine s_asgLP (elp_lc2 (K := K) (ev_var rfl) (sq_of ha) (fun x H3 e3 => ea_cons (ev_var rfl) ea_nil) lu (by omega) (fun v p H' => Nats K H' v ((rows n i).getD p.1 [] ++ [p.2])) (stb_nats (K := K) _) (fun _ => rfl) (fun _ _ => rfl) (fun j x k H3 e3 hx hk => ?_)) fun p ws H3 np e3 hp hw => ⟨e2.trans e3, .ref p, _, ⟨p, ws, rfl, hp, ?_⟩, rfl⟩
      · obtain ⟨row, hrow, xa, rfl, hxa⟩ := paired_at pus hx
        have er : (rows n i).getD j [] = row := by rw [List.getD_eq_getElem?_getD, hrow]; rfl
        have lr : row.length = i := (rows_of (List.mem_iff_getElem?.mpr ⟨j, hrow⟩)).1
        rw [er]
        refine tv_nats (tv_is (tv_cat (tv_ev (ev_var rfl) (ex_t e3 hxa)) (tv_tup (ea_cons (ev_var rfl) ea_nil) (by show 1 ≤ 100000; decide)) ?_) ?_)
        · rw [List.length_map, lr]
          show i + 1 ≤ 100000
          omega
        · rw [List.map_append]
          rfl
      · rw [paired_len pus] at hw
        have := paired_map (S := Nats K H3) (f := fun p : Nat × Nat => (rows n i).getD p.1 [] ++ [p.2]) (fun _ _ z => z) hw
        rw [pairs_rows] at this
        exact this
    · subst hσ
      rw [Int.toNat_natCast] at hv
      exact s_ret (ev_var rfl) fun H3 e3 => q _ H3 (e2.trans e3) (hv.ex e3)
/-! ### what is the same for all -/
theorem exch_sw {n : Nat} (h : 1 < n) : [1, 0] ++ (List.range n).drop 2 = sw n 0 := by
  apply List.ext_getElem?
  intro k
  unfold sw
  match k with
  | 0 => rw [List.getElem?_map, List.getElem?_range (by omega)]; rfl
  | 1 => rw [List.getElem?_map, List.getElem?_range h]; rfl
  | k + 2 =>
    show ((List.range n).drop 2)[k]? = _
    rw [List.getElem?_drop, List.getElem?_map, show 2 + k = k + 2 by omega]
    by_cases hk : k + 2 < n
    · rw [List.getElem?_range hk]
      show some (k + 2) = some (if k + 2 = 0 then 0 + 1 else if k + 2 = 0 + 1 then 0 else k + 2)
      rw [if_neg (by omega), if_neg (by omega)]
    · rw [List.getElem?_eq_none_iff.mpr (by simp; omega)]
      rfl
theorem arnd_rot {n : Nat} (h : 0 < n) : (List.range n).drop 1 ++ [0] = rot n := by
  apply List.ext_getElem?
  intro k
  unfold rot
  rw [List.getElem?_map]
  by_cases hk : k + 1 < n
  · rw [List.getElem?_append_left (by simp; omega), List.getElem?_drop, show 1 + k = k + 1 by omega, List.getElem?_range hk, List.getElem?_range (by omega)]
    show some (k + 1) = some (if k + 1 = n then 0 else k + 1)
    rw [if_neg (by omega)]
  · rw [List.getElem?_append_right (by simp; omega)]
    by_cases hk2 : k + 1 = n
    · rw [List.getElem?_range (by omega)]
      simp only [List.length_drop, List.length_range]
      rw [show k - (n - 1) = 0 by omega]
      show some 0 = some (if k + 1 = n then 0 else k + 1)
      rw [if_pos hk2]
    · rw [List.getElem?_eq_none_iff.mpr (by simp; omega), List.getElem?_eq_none_iff.mpr (by simp; omega)]
      rfl
theorem tab_low {n p : Nat} {t : List Nat} (ht : Tab n p t) : ∀ k ∈ t, k < n := fun k hk => by
  obtain ⟨i, hi, e⟩ := List.mem_iff_getElem.mp hk
  have a := g_eq hi
  rw [List.getElem?_eq_getElem hi, e] at a
  rw [Option.some.inj a]
  exact ht.low i (by rw [← ht.len]; exact hi)
theorem tab_len {n p : Nat} {t : List Nat} (ht : Tab n p t) (hn : n ≤ 6) (hp : p ≤ 2) : t.length ≤ 36 := by
  rw [ht.len]
  match p, hp with
  | 0, _ => simp
  | 1, _ => rw [Nat.pow_one]; omega
  | 2, _ => rw [Nat.pow_two]; exact Nat.mul_le_mul hn hn
def sp_is_same (K : PySem.W.Frag) : Sp := spX (fun (p : Nat × Nat × List Nat) vs H => (∃ v, vs = [vi p.1, vi p.2.1, v] ∧ Nats K H v p.2.2) ∧ Tab p.1 p.2.1 p.2.2 ∧ 1 ≤ p.1 ∧ p.1 ≤ 6 ∧ p.2.1 ≤ 2) (fun p v _ => v = .bl (M25.same p.1 p.2.1 p.2.2))
theorem c_is_same_for_all (T : Txt mg) (D : Df K mg "is_same_for_all" s_is_same_for_all ["size", "places", "table"]) (c_renamed_table : Cl P w K mg base 2 "renamed_table" (sp_renamed_table K)) : Cl P w K mg base 3 "is_same_for_all" (sp_is_same K) := by
  refine cl_of (k := 2) D sc_is_same_for_all (fun vs H Q E h => ?_) (fun f cdv A outer s H vs Q E hr h => ?_)
  · obtain ⟨p, ⟨⟨v, rfl, _⟩, _⟩, _⟩ := h
    rfl
  · obtain ⟨⟨n, p, t⟩, ⟨⟨v, rfl, hv⟩, ht, n1, n6, p2⟩, q⟩ := h
    refine ⟨_, (pss_cons (ps_if (pt_cmpR op_eq (pv 0) pe_int (nomark _))
        (pss_one (ps_ret pe_bl))
        pss_nil)
      (pss_cons (ps_set (i := 3) sc_is_same_for_all.nd rfl (.inl rfl) (pe_tupRg rfl (by rfl) T.z_tuple (prg_1 (by rfl) T.z_range (pv 0))))
      (pss_cons (ps_set (i := 4) sc_is_same_for_all.nd rfl (.inl rfl) (pe_op op_catA (pe_tup (pa_cons pe_int (pa_cons pe_int pa_nil))) (pe_slice sl_tupA (pv 3) (po_some pe_int) po_none)))
      (pss_cons (ps_set (i := 5) sc_is_same_for_all.nd rfl (.inl rfl) (pe_op op_catA (pe_slice sl_tupA (pv 3) (po_some pe_int) po_none) (pe_tup (pa_cons pe_int pa_nil))))
      (pss_one (ps_ret (pe_and (pe_cmpR (op_eqD hr.units) (pe_cl c_renamed_table hr (by first | decide | omega) (by rfl) (pa_cons (pv 0) (pa_cons (pv 1) (pa_cons (pv 2) (pa_cons (pv 4) pa_nil))))) (pv 2) (nomark _)) (pe_one (pe_cmpR (op_eqD hr.units) (pe_cl c_renamed_table hr (by first | decide | omega) (by rfl) (pa_cons (pv 0) (pa_cons (pv 1) (pa_cons (pv 2) (pa_cons (pv 5) pa_nil))))) (pv 2) (nomark _)))))))))), ?_⟩
    replace hv : Nats K H v t := hv
    replace ht : Tab n p t := ht
    replace n1 : 1 ≤ n := n1
    replace n6 : n ≤ 6 := n6
    replace p2 : p ≤ 2 := p2
    refine q_when (b := decide (V.int (n : Int) = .int 1)) (et_test (ev_op (ev_var rfl) ev_c (rv_eq rfl))) (fun hb H1 e1 => s_ret ev_c fun H2 e2 => q _ H2 (e1.trans e2) ?_) (fun hb H1 e1 => ?_)
    · have z : (n : Int) = 1 := V.int.inj (of_decide_eq_true hb)
      have z2 : n = 1 := by omega
      show V.bl true = .bl (M25.same n p t)
      unfold M25.same
      rw [decide_eq_true z2]
      rfl
    · have ne : n ≠ 1 := fun z => absurd (show V.int (n : Int) = .int 1 by rw [z]; rfl) (of_decide_eq_false hb)
      have lt : 1 < n := by omega
      refine q_asgU (eu_trg (ev_var rfl) (by omega)) fun a H2 na e2 ha => ?_
      have hA : TV K H2 (.ref a) ((List.range n).map vi) := ⟨a, rfl, st_of ha⟩
      refine q_asgP (P := fun u H' => Nats K H' u (sw n 0)) (tv_nats (tv_is (tv_cat (tv_tup (xs := [vi 1, vi 0]) (ea_cons ev_c (ea_cons ev_c ea_nil)) (by show 2 ≤ 100000; decide)) (tv_sl (tv_evV (ev_var rfl) hA) (eo_some (i := ((2 : Nat) : Int)) ev_c) eo_none) (by rw [cut_from']; simp; omega)) (by rw [cut_from', ← List.map_drop, ← exch_sw lt, List.map_append]; rfl))) fun u H3 e3 hu => ?_
      refine q_asgP (P := fun u H' => Nats K H' u (rot n)) (tv_nats (tv_is (tv_cat (tv_sl (tv_evV (ev_var rfl) (hA.ex e3)) (eo_some (i := ((1 : Nat) : Int)) ev_c) eo_none) (tv_tup (xs := [vi 0]) (ea_cons ev_c ea_nil) (by show 1 ≤ 100000; decide)) (by rw [cut_from']; simp; omega)) (by rw [cut_from', ← List.map_drop, ← arnd_rot n1, List.map_append]; rfl))) fun u2 H4 e4 hu2 => ?_
      have e04 := ((e1.trans e2).trans e3).trans e4
      have low : ∀ o, Ord n o → (∀ k ∈ ren n p o t, k ≤ 1000) ∧ (ren n p o t).length ≤ 36 := fun o ho => ⟨fun k hk => by have := tab_low (ren_tab p2 ho ht) k hk; omega, tab_len (ren_tab p2 ho ht) n6 p2⟩
      have tl : (∀ k ∈ t, k ≤ 1000) ∧ t.length ≤ 36 := ⟨fun k hk => by have := tab_low ht k hk; omega, tab_len ht n6 p2⟩
      have os := sw_ord (n := n) (i := 0) lt
      have or := rot_ord (n := n)
      refine s_ret (v := .bl (decide (ren n p (sw n 0) t = t) && decide (ren n p (rot n) t = t))) (ev_andV (ev_eqN (K := K) (ep_call (n, p, t, sw n 0) (ea_cons (ev_var rfl) (ea_cons (ev_var rfl) (ea_cons (ev_var rfl) (ea_cons (ev_var rfl) ea_nil)))) fun H5 e5 => ⟨⟨_, _, rfl, hv.ex (e04.trans e5), hu.ex (e4.trans e5)⟩, ht, os, n1, n6, p2⟩) (ep_ev (ev_var rfl) fun H5 e5 => hv.ex (e04.trans e5)) (low _ os).1 tl.1 (low _ os).2 tl.2) (fun _ => ev_eqN (K := K) (ep_call (n, p, t, rot n) (ea_cons (ev_var rfl) (ea_cons (ev_var rfl) (ea_cons (ev_var rfl) (ea_cons (ev_var rfl) ea_nil)))) fun H5 e5 => ⟨⟨_, _, rfl, hv.ex (e04.trans e5), hu2.ex e5⟩, ht, or, n1, n6, p2⟩) (ep_ev (ev_var rfl) fun H5 e5 => hv.ex (e04.trans e5)) (low _ or).1 tl.1 (low _ or).2 tl.2)) fun H5 e5 => q _ H5 (e04.trans e5) ?_
      show _ = V.bl (M25.same n p t)
      unfold M25.same
      rw [decide_eq_false ne]
      rfl
end
end K24
end
section
namespace K24
open PySem PySem.Spec PyProof.Rows L2 Evl RZ Dw M20 M25
section
variable {P : Program} {w : World} {K : PySem.W.Frag} {mg : Str → Option Value} {base : Heap}
/-- a begin: the numbers called so far, and all names -/
def Beg (K : PySem.W.Frag) (n : Nat) (v : V) (b : List Nat) (H : Hp) : Prop := ∃ p u x, v = .ref p ∧ SqT K H p [u, x] ∧ Nats K H u b ∧ TV K H x ((nms n b).map V.int)
theorem Beg.et {n : Nat} {v : V} {b : List Nat} {H H' : Hp} (e : ET K H H') (h : Beg K n v b H) : Beg K n v b H' := let ⟨p, u, x, q, s, a, c⟩ := h; ⟨p, u, x, q, e _ _ s, a.et e, c.et e⟩
theorem stb_beg {β : Type} (n : Nat) (f : β → List Nat) : StbB (fun v b H => Beg K n v (f b) H) := fun _ _ _ _ e h => h.et e.et
def Begs (K : PySem.W.Frag) (n : Nat) (H : Hp) (v : V) (bs : List (List Nat)) : Prop := ∃ a vs, v = .ref a ∧ H a = some (.lst vs) ∧ Paired (fun v b => Beg K n v b H) vs bs
theorem Begs.ex {n : Nat} {H H' : Hp} {v : V} {bs : List (List Nat)} (e : Ex H H') (h : Begs K n H v bs) : Begs K n H' v bs := let ⟨a, vs, q, s, p⟩ := h; ⟨a, vs, q, e _ _ s, paired_imp (fun _ _ z => Beg.et (Dw.Ex.et e) z) p⟩
theorem ints_vi (b : List Nat) : b.map vi = (b.map fun k => ((k : Nat) : Int)).map V.int := by rw [List.map_map]; rfl
/-! ### one more is called -/
def sp_with_called (K : PySem.W.Frag) : Sp := spX (fun (p : Nat × Nat × List Nat × Nat) vs H => (∃ u x, vs = [u, x, vi p.2.2.2] ∧ Nats K H u p.2.2.1 ∧ TV K H x ((nms p.1 p.2.2.1).map V.int)) ∧ Bg p.1 p.2.1 p.2.2.1 ∧ p.2.2.2 < p.1 ∧ p.2.2.2 ∉ p.2.2.1 ∧ p.1 ≤ 6) (fun p v H => Beg K p.1 v (p.2.2.1 ++ [p.2.2.2]) H)
theorem c_with_called (T : Txt mg) (D : Df K mg "with_called" s_with_called ["olds", "names", "old"]) : Cl P w K mg base 1 "with_called" (sp_with_called K) := by
  refine cl_of (k := 0) D sc_with_called (fun vs H Q E h => ?_) (fun f cdv A outer s H vs Q E hr h => ?_)
  · obtain ⟨p, ⟨⟨u, x, rfl, _⟩, _⟩, _⟩ := h
    rfl
  · obtain ⟨⟨n, L, b, o⟩, ⟨⟨u, x, rfl, hu, hx⟩, hb, ho, m, n6⟩, q⟩ := h
    refine ⟨_, (pss_one (ps_ret (pe_tup (pa_cons (pe_op op_catA (pv 0) (pe_tup (pa_cons (pv 2) pa_nil))) (pa_cons (pe_op op_catA (pe_op op_catA (pe_slice sl_tupA (pv 1) po_none (po_some (pv 2))) (pe_tup (pa_cons (pe_callB call_len_seq (by rfl) T.z_len PySem.boot_len (pa_cons (pv 0) pa_nil)) pa_nil))) (pe_slice sl_tupA (pv 1) (po_some (pe_op op_add (pv 2) pe_int)) po_none)) pa_nil))))), ?_⟩
    replace hu : Nats K H u b := hu
    replace hx : TV K H x ((nms n b).map V.int) := hx
    replace hb : Bg n L b := hb
    replace ho : o < n := ho
    replace m : o ∉ b := m
    replace n6 : n ≤ 6 := n6
    have lb : b.length ≤ 6 := by have := hb.le; rw [hb.len]; omega
    have ln6 : (nms n b).length ≤ 6 := by rw [nms_len]; exact n6
    obtain ⟨ua, rfl, sua⟩ := id hu
    have hnew : EvP (tTup (tCons (tCB (rLenS K) (tCons (tVar 0) tNil)) tNil)) (start ["olds", "names", "old"] [.ref ua, x, vi o]) H (fun v H' => TV K H' v [V.int ((b.length : Nat) : Int)]) := tv_tup (ea_cons (ev_is (ev_lenT (ev_var rfl) sua) (by rw [List.length_map])) ea_nil) (by show 1 ≤ 100000; decide)
    refine s_retP (ep_tup2 (P := fun v H' => Nats K H' v (b ++ [o])) (R2 := fun v H' => TV K H' v ((nms n (b ++ [o])).map V.int)) (tv_nats (tv_is (tv_cat (tv_evV (ev_var rfl) hu) (tv_tup (xs := [vi o]) (ea_cons (ev_var rfl) ea_nil) (by show 1 ≤ 100000; decide)) (by rw [List.length_map]; show b.length + 1 ≤ 100000; omega)) (by rw [List.map_append]; rfl)))
      (tv_is (tv_cat (tv_cat (tv_sl (tv_evV (ev_var rfl) hx) eo_none (eo_some (i := ((o : Nat) : Int)) (ev_var rfl))) hnew (by rw [cut_to', List.length_take, List.length_map]; show _ + 1 ≤ _; omega)) (tv_sl (tv_evV (ev_var rfl) hx) (eo_some (i := ((o + 1 : Nat) : Int)) (ev_addM (b := 1) (ev_var rfl) ev_c)) eo_none) (by rw [cut_to', cut_from', List.length_append, List.length_take, List.length_drop, List.length_map]; show _ + 1 + _ ≤ _; omega)) (by
        rw [cut_to', cut_from', ← nms_snoc ho m, List.map_append, List.map_append, List.map_take, List.map_drop]; rfl))
      (fun v H H' e h => h.ex e) (fun v H H' e h => h.ex e)) fun v H1 e1 ⟨p, y, z, e, sp, hy, hz⟩ => q _ H1 e1 ⟨p, y, z, e, sp, hy, hz⟩
/-! ### all are called up to a number -/
def sp_all_called (K : PySem.W.Frag) : Sp := spX (fun (p : Nat × List (List Nat) × Nat) vs H => (∃ v, vs = [v, vi p.2.2] ∧ Begs K p.1 H v p.2.1) ∧ Good p.1 p.2.1 ∧ p.2.2 ≤ p.1 ∧ p.1 ≤ 6) (fun p v H => Begs K p.1 H v (grow p.1 p.2.2 p.2.1))
theorem c_all_called (T : Txt mg) (D : Df K mg "all_called" s_all_called ["begins", "many"]) (c_with_called : Cl P w K mg base 1 "with_called" (sp_with_called K)) : Cl P w K mg base 2 "all_called" (sp_all_called K) := by
  refine cl_of (k := 1) D sc_all_called (fun vs H Q E h => ?_) (fun f cdv A outer s H vs Q E hr h => ?_)
  · obtain ⟨p, ⟨⟨v, rfl, _⟩, _⟩, _⟩ := h
    rfl
  · obtain ⟨⟨n, bs0, many⟩, ⟨⟨v0, rfl, hv0⟩, g0, le, n6⟩, q⟩ := h
    refine ⟨_, (pss_cons (ps_while PassesOwn.never (pt_cmpR op_lt (pe_callB call_len_seq (by rfl) T.z_len PySem.boot_len (pa_cons (pe_ix ix_tup (pe_ix ix_list (pv 0) pe_int (fun _ _ => rfl)) pe_int (fun _ _ => rfl)) pa_nil)) (pv 1) (nomark _))
        (pss_cons (ps_set (i := 2) sc_all_called.nd rfl (.inl rfl) (pe_lst pa_nil))
        (pss_cons (ps_for PassesOwn.never (by rfl) (pi_list (pv 0)) (pg_tup (by rfl) (pgs_cons (pg_name (i := 3) sc_all_called.nd rfl (.inr rfl)) (pgs_cons (pg_name (i := 4) sc_all_called.nd rfl (.inr rfl)) pgs_nil)))
          (pss_one (ps_expr (pe_bm PySem.F.plainAttrs_list PySem.F.slot_list_extend PySem.F.type_list_extend mt_extend (pv 2) (pa_cons (pe_lc (own := [("old", 5)]) (g := (gName 5)) (by rfl) sc_all_called.nd (pi_range1 (by rfl) T.z_range (pa_cons (pe_callB call_len_seq (by rfl) T.z_len PySem.boot_len (pa_cons (pv 4) pa_nil)) pa_nil)) (blkOk_by (own := [("old", 5)]) (N := ["begins", "many", "longer", "olds", "names", "old"]) (sc := (defScope s_all_called)) (by decide +kernel)) (fun _ _ _ _ _ => (pg_name (i := 5) sc_all_called.nd rfl (.inl rfl))) (fun _ _ _ _ _ => (pts_one (pt_cmpR op_lt (pe_ix (ix_tupK K) (pv 4) (pv 5) (fun _ _ => rfl)) pe_int (nomark _)))) (fun _ _ _ _ _ => (pe_cl c_with_called hr (by first | decide | omega) (by rfl) (pa_cons (pv 3) (pa_cons (pv 4) (pa_cons (pv 5) pa_nil)))))) pa_nil)))))
        (pss_one (ps_set (i := 0) sc_all_called.nd rfl (.inl rfl) (pv 2))))))
      (pss_one (ps_ret (pv 0)))), ?_⟩
    replace hv0 : Begs K n H v0 bs0 := hv0
    replace g0 : Good n bs0 := g0
    replace le : many ≤ n := le
    replace n6 : n ≤ 6 := n6
    refine q_while (fun m σ H' => Ex H H' ∧ ∃ v bs y2 y3 y4, m = n - ln bs ∧ Begs K n H' v bs ∧ Good n bs ∧ grow n many bs = grow n many bs0 ∧ σ = [some v, some (vi many), y2, y3, y4, none]) (n - ln bs0) ⟨Ex.refl _, v0, bs0, none, none, none, rfl, hv0, g0, rfl, rfl⟩ (fun m σ H1 ⟨e1, v, bs, y2, y3, y4, hm, hv, gd, ge, hσ⟩ => ?_)
    subst hσ
    obtain ⟨a, us, rfl, ha, pus⟩ := id hv
    have gl := gd.ln_le
    have ls := gd.few n6
    have lus := paired_len pus
    -- the first
    have f0 : ∃ b0, bs[0]? = some b0 := by
      cases hbs : bs with
      | nil => exact absurd hbs gd.ne
      | cons b r => exact ⟨b, rfl⟩
    obtain ⟨b0, hb0⟩ := f0
    have lnb : ln bs = b0.length := by
      cases bs with
      | nil => cases hb0
      | cons b r =>
        rw [← Option.some.inj hb0]
        rfl
    obtain ⟨x0, hx0, p0, u0, z0, rfl, sp0, ⟨ua0, rfl, sua0⟩, _⟩ := paired_get pus hb0
    refine ⟨decide (ln bs < many), et_is (et_test (ev_op (ev_lenT (ev_op (ev_op (ev_var rfl) ev_c (rv_ixL (K := K) (sq_of ha) (atI_vi (k := 0) hx0))) ev_c (rv_ixT (K := K) sp0 (atI_vi (k := 0) rfl))) sua0) (ev_var rfl) rv_I0)) (by
      rw [List.length_map, lnb]
      exact decide_eq_decide.mpr Int.ofNat_lt), fun hb H2 e2 => ?_, fun hb H2 e2 => ?_⟩
    · have lt : ln bs < many := of_decide_eq_true hb
      obtain ⟨gx, lx⟩ := ln_ext1 gd (by omega)
      refine ⟨fun σ H' => Ex H H' ∧ ∃ v y2 y3 y4, Begs K n H' v (ext1 n bs) ∧ σ = [some v, some (vi many), y2, y3, y4, none], fun σ' H' ⟨e3, v, y2, y3, y4, hv3, hσ3⟩ => ⟨n - ln (ext1 n bs), by rw [lx]; omega, e3, v, ext1 n bs, y2, y3, y4, rfl, hv3, gx, by rw [← grow_step gd lt le, ge], hσ3⟩, ?_⟩
      refine q_asgL (el_lst ea_nil (Nat.zero_le _)) fun m0 H3 nm e3 hm0 => ?_
      have e13 := e2.trans e3
      have nmH1 : H1 m0 = none := fresh_back e2 nm
      refine q_forL (K := K) (ev_var rfl) (sq_of (e13 _ _ ha)) (fun i σ H' => Ex H1 H' ∧ ∃ ws y3 y4, H' m0 = some (.lst ws) ∧ Paired (fun v b => Beg K n v b H') ws (ext1 n (bs.take i)) ∧ σ = [some (.ref a), some (vi many), some (.ref m0), y3, y4, none])
        (fun H4 e4 => ⟨e13.trans e4, [], y3, y4, e4 _ _ hm0, .nil, rfl⟩) (fun i σ H' _ ⟨e, _⟩ => sq_of (e _ _ ha)) (fun i x σ H4 hx ⟨e4, ws, y3', y4', hws, pws, hσ⟩ => ?_) (fun σ H4 ⟨e4, ws, y3', y4', hws, pws, hσ⟩ => ?_)
      · subst hσ
        obtain ⟨b, hbi, p, u, z, rfl, sp, hu, hz⟩ := paired_at pus hx
        have bb := gd.bgs.each b (List.mem_iff_getElem?.mpr ⟨i, hbi⟩)
        have hu4 := hu.ex e4
        have hz4 := hz.ex e4
        obtain ⟨za, rfl, sza⟩ := id hz4
        refine ⟨p, _, rfl, ex_t e4 sp, rfl, _, _, rfl, _, _, rfl, rfl, ?_⟩
        have lw : ws.length ≤ 720 := by
          rw [paired_len pws]
          have sub : (ext1 n (bs.take i)).length ≤ (ext1 n bs).length := by
            conv => rhs; rw [← List.take_append_drop i bs]
            unfold ext1
            rw [List.flatMap_append, List.length_append]
            omega
          exact Nat.le_trans sub (gx.few n6)
        refine do_ext (R := fun vs H' => Paired (fun v k => Beg K n v (b ++ [k]) H') vs (free n b)) hws (ev_var rfl) ((elp_lcR (n := n) (ea_cons (ev_is (ev_lenT (ev_var rfl) sza) (by rw [List.length_map, nms_len])) ea_nil) (by omega) (fun k => !decide (k ∈ b)) (fun v k H' => Beg K n v (b ++ [k]) H') (stb_beg (K := K) n _) (fun _ => rfl) (fun k H5 hk e5 => ⟨?_, fun hf => ?_⟩)).imp fun vs H' _ z => z) fun r vs H5 nr e5 hr pvs => ⟨?_, ?_⟩
        · have e0 : V.int (nmOf b k) = V.int (nmOf b k) := rfl
          refine et_is (et_test (ev_op (x := .int (nmOf b k)) (ev_op (ev_var rfl) (ev_var rfl) (rv_ixT (K := K) (ex_t e5 sza) (atI_vi (by rw [List.getElem?_map, nms_at hk]; rfl)))) ev_c rv_I0)) ?_
          by_cases z : k ∈ b
          · rw [decide_eq_true z, decide_eq_false (fun y => nm_neg.mp y z)]
            rfl
          · rw [decide_eq_false z, decide_eq_true (nm_neg.mpr z)]
            rfl
        · have nk : k ∉ b := fun z => by rw [decide_eq_true z] at hf; cases hf
          exact ep_call (n, ln bs, b, k) (ea_cons (ev_var rfl) (ea_cons (ev_var rfl) (ea_cons (ev_var rfl) ea_nil))) fun H6 e6 => ⟨⟨_, _, rfl, hu4.ex (e5.trans e6), hz4.ex (e5.trans e6)⟩, bb, hk, nk, n6⟩
        · have lf : vs.length ≤ n := by rw [paired_len pvs]; exact filt_len n _
          exact sz_of (by omega)
        · have hw5 := e5 _ _ hws
          refine ⟨(e4.trans e5).mut nmH1, ws ++ vs, _, _, upd_same, ?_, rfl⟩
          have et : ET K H5 (upd H5 m0 (.lst (ws ++ vs))) := ET.refl.upd hw5
          rw [List.take_add_one, hbi]
          show Paired _ (ws ++ vs) (ext1 n (bs.take i ++ [b]))
          unfold ext1
          rw [List.flatMap_append, List.flatMap_singleton]
          exact paired_app (paired_imp (fun _ _ z => Beg.et (ET.trans (Dw.Ex.et e5) et) z) pws) (paired_map (R := fun v k => Beg K n v (b ++ [k]) (upd H5 m0 (.lst (ws ++ vs)))) (fun _ _ z => z) (paired_imp (fun _ _ z => Beg.et et z) pvs))
      · subst hσ
        have full : bs.take us.length = bs := List.take_of_length_le (by rw [lus]; exact Nat.le_refl _)
        rw [full] at pws
        exact s_asg (ev_var rfl) fun H5 e5 => ⟨(e1.trans e4).trans e5, .ref m0, _, _, _, ⟨m0, ws, rfl, e5 _ _ hws, paired_imp (fun _ _ z => Beg.et (Dw.Ex.et e5) z) pws⟩, rfl⟩
    · have ge' := grow_done (n := n) (bs := bs) (of_decide_eq_false hb)
      rw [ge'] at ge
      refine s_ret (ev_var rfl) fun H3 e3 => q _ H3 ((e1.trans e2).trans e3) ?_
      show Begs K n H3 (.ref a) (grow n many bs0)
      rw [← ge]
      exact hv.ex (e2.trans e3)
end
end K24
end
section
namespace K24
open PySem PySem.Spec PyProof.Rows L2 Evl RZ Dw M20 M25
section
variable {P : Program} {w : World} {K : PySem.W.Frag} {mg : Str → Option Value} {base : Heap}
/-! ### the least worth of a cell, and the begins that have it -/
structure WArg where
  n : Nat
  pl : Nat
  t : List Nat
  args : List Nat
  bs : List (List Nat)
structure WOk (a : WArg) : Prop where
  n1 : 1 ≤ a.n
  n6 : a.n ≤ 6
  p2 : a.pl ≤ 2
  tab : Tab a.n a.pl a.t
  row : a.args ∈ rows a.n a.pl
  good : Good a.n a.bs
  nd : need a.args ≤ ln a.bs
def BestV (K : PySem.W.Frag) (n : Nat) (G H : Hp) (v : V) (m : Nat) (bs : List (List Nat)) : Prop := ∃ p a, v = .ref p ∧ SqT K H p [vi m, .ref a] ∧ G a = none ∧ Begs K n H (.ref a) bs
def sp_least_worth (K : PySem.W.Frag) : Sp := spG (fun (p : WArg) vs H => (∃ u x y, vs = [vi p.n, u, x, y] ∧ Nats K H u p.t ∧ Nats K H x p.args ∧ Begs K p.n H y p.bs) ∧ WOk p) (fun p G v H => BestV K p.n G H v (best p.n p.t p.args p.bs p.n) (lst p.n p.t p.args p.bs))
theorem c_least_worth (T : Txt mg) (D : Df K mg "least_worth" s_least_worth ["size", "table", "args", "begins"]) (c_with_called : Cl P w K mg base 1 "with_called" (sp_with_called K)) : Cl P w K mg base 2 "least_worth" (sp_least_worth K) := by
  refine cl_of (k := 1) D sc_least_worth (fun vs H Q E h => ?_) (fun f cdv A outer s H vs Q E hr h => ?_)
  · obtain ⟨p, ⟨⟨u, x, y, rfl, _⟩, _⟩, _⟩ := h
    rfl
  · obtain ⟨⟨n, pl, t, args, bs⟩, ⟨⟨u, x, y, rfl, hu, hx, hy⟩, ok⟩, q⟩ := h
    refine ⟨_, (pss_cons (ps_set (i := 4) sc_least_worth.nd rfl (.inl rfl) (pv 0))
      (pss_cons (ps_set (i := 5) sc_least_worth.nd rfl (.inl rfl) (pe_lst pa_nil))
      (pss_cons (ps_for PassesOwn.never (by rfl) (pi_list (pv 3)) (pg_tup (by rfl) (pgs_cons (pg_name (i := 6) sc_least_worth.nd rfl (.inl rfl)) (pgs_cons (pg_name (i := 7) sc_least_worth.nd rfl (.inl rfl)) pgs_nil)))
        (pss_cons (ps_set (i := 8) sc_least_worth.nd rfl (.inl rfl) pe_int)
        (pss_cons (ps_for PassesOwn.never (by rfl) (pi_tup (pv 2)) (pg_name (i := 9) sc_least_worth.nd rfl (.inl rfl))
          (pss_one (ps_set (i := 8) sc_least_worth.nd rfl (.inl rfl) (pe_op op_add (pe_op op_mul (pv 8) (pv 0)) (pe_ix ix_tup (pv 6) (pv 9) (fun _ _ => rfl))))))
        (pss_cons (ps_set (i := 10) sc_least_worth.nd rfl (.inl rfl) (pe_ix ix_tup (pv 7) (pe_ix ix_tup (pv 1) (pv 8) (fun _ _ => rfl)) (fun _ _ => rfl)))
        (pss_cons (ps_set (i := 11) sc_least_worth.nd rfl (.inl rfl) (pe_ifExp (pt_cmpR op_lt (pv 10) pe_int (nomark _)) (pe_callB call_len_seq (by rfl) T.z_len PySem.boot_len (pa_cons (pv 6) pa_nil)) (pv 10)))
        (pss_cut (ps_if (pt_cmpR op_lt (pv 11) (pv 4) (nomark _))
          (pss_cons (ps_set (i := 4) sc_least_worth.nd rfl (.inl rfl) (pv 11))
          (pss_one (ps_set (i := 5) sc_least_worth.nd rfl (.inl rfl) (pe_lst pa_nil))))
          pss_nil)
        (pss_one (ps_if (pt_cmpR op_eq (pv 11) (pv 4) (nomark _))
          (pss_one (ps_expr (pe_bm PySem.F.plainAttrs_list PySem.F.slot_list_append PySem.F.type_list_append mt_append (pv 5) (pa_cons (pe_ifExp (pt_cmpR op_lt (pv 10) pe_int (nomark _)) (pe_cl c_with_called hr (by first | decide | omega) (by rfl) (pa_cons (pv 6) (pa_cons (pv 7) (pa_cons (pe_ix ix_tup (pv 1) (pv 8) (fun _ _ => rfl)) pa_nil)))) (pe_tup (pa_cons (pv 6) (pa_cons (pv 7) pa_nil)))) pa_nil))))
          pss_nil))))))))
      (pss_one (ps_ret (pe_tup (pa_cons (pv 4) (pa_cons (pv 5) pa_nil)))))))), ?_⟩
    obtain ⟨n1, n6, p2, tab, row, gd, nd⟩ := ok
    replace n1 : 1 ≤ n := n1
    replace n6 : n ≤ 6 := n6
    replace p2 : pl ≤ 2 := p2
    replace tab : Tab n pl t := tab
    replace row : args ∈ rows n pl := row
    replace gd : Good n bs := gd
    replace nd : need args ≤ ln bs := nd
    replace hu : Nats K H u t := hu
    replace hx : Nats K H x args := hx
    replace hy : Begs K n H y bs := hy
    obtain ⟨ra, rb⟩ := rows_of row
    obtain ⟨ta, rfl, sta⟩ := id hu
    obtain ⟨aa, rfl, saa⟩ := id hx
    obtain ⟨ba, us, rfl, hba, pus⟩ := id hy
    have ls := gd.few n6
    have lus := paired_len pus
    have p36 := pow_small' n6 p2
    refine q_asg (ev_var rfl) fun H1 e1 => ?_
    refine q_asgL (el_lst ea_nil (Nat.zero_le _)) fun k0 H2 nk e2 hk0 => ?_
    have e02 := e1.trans e2
    have nkH : H k0 = none := fresh_back e1 nk
    refine q_forL (K := K) (ev_var rfl) (sq_of (e02 _ _ hba)) (fun i σ H' => Ex H H' ∧ ∃ kp ws y6 y7 y8 y9 y10 y11, H kp = none ∧ H' kp = some (.lst ws) ∧ Paired (fun v b => Beg K n v b H') ws (keptL n t args (bs.take i) (best n t args (bs.take i) n)) ∧ σ = [some (vi n), some (.ref ta), some (.ref aa), some (.ref ba), some (vi (best n t args (bs.take i) n)), some (.ref kp), y6, y7, y8, y9, y10, y11])
      (fun H3 e3 => ⟨e02.trans e3, k0, [], none, none, none, none, none, none, nkH, e3 _ _ hk0, .nil, rfl⟩) (fun i σ H' _ ⟨e, _⟩ => sq_of (e _ _ hba)) (fun i x σ H3 hx3 ⟨e3, kp, ws, y6, y7, y8, y9, y10, y11, nkp, hkp, pws, hσ⟩ => ?_) (fun σ H3 ⟨e3, kp, ws, y6, y7, y8, y9, y10, y11, nkp, hkp, pws, hσ⟩ => ?_)
    · subst hσ
      obtain ⟨b, hbi, p, u, z, rfl, sp, hu3, hz3⟩ := paired_at pus hx3
      have bb := gd.bgs.each b (List.mem_iff_getElem?.mpr ⟨i, hbi⟩)
      have lb : b.length ≤ 6 := by have := bb.le; rw [bb.len]; omega
      have argb : ∀ k ∈ args, k < b.length := fun k hk => by
        rw [bb.len]
        exact Nat.lt_of_lt_of_le (need_lt k hk) nd
      have gb : ∀ k ∈ args, g b k < n := fun k hk => bb.low _ (g_mem (argb k hk))
      have lo := at_small gb
      rw [ra] at lo
      obtain ⟨ua, rfl, sua⟩ := id hu3
      obtain ⟨za, rfl, sza⟩ := id hz3
      refine ⟨p, _, rfl, ex_t e3 sp, rfl, _, _, rfl, _, _, rfl, rfl, ?_⟩
      refine q_asg ev_c fun H4 e4 => ?_
      have e04 := e3.trans e4
      refine q_forT (K := K) (ev_var rfl) (ex_t e04 saa) (fun j σ H' => Ex H4 H' ∧ ∃ y9, σ = [some (vi n), some (.ref ta), some (.ref aa), some (.ref ba), some (vi (best n t args (bs.take i) n)), some (.ref kp), some (.ref ua), some (.ref za), some (vi (at_ n b (args.take j))), y9, y10, y11])
        (fun H5 e5 => ⟨e5, y9, rfl⟩) (fun j σ H' _ ⟨e, _⟩ => ex_t (e04.trans e) saa) (fun j x σ H5 hx5 ⟨e5, y9, hσ⟩ => ?_) (fun σ H5 ⟨e5, y9, hσ⟩ => ?_)
      · subst hσ
        have hj : j < args.length := by
          have := (List.getElem?_eq_some_iff.mp hx5).1
          rw [List.length_map] at this
          exact this
        rw [vi_get hj] at hx5
        have ex := Option.some.inj hx5
        subst ex
        have lt2 := at_small (n := n) (b := b) (args := args.take j) fun k hk => gb k (List.mem_of_mem_take hk)
        have l36 : at_ n b (args.take j) ≤ 100000 := by
          rw [List.length_take, Nat.min_eq_left (by omega)] at lt2
          have := pow_small' (n := n) (p := j) n6 (by omega)
          omega
        refine s_asg (ev_addM (ev_mulM (ev_var rfl) (ev_var rfl) l36) (ev_op (ev_var rfl) (ev_var rfl) (rv_ixT (K := K) (ex_t (e04.trans e5) sua) (atI_vi (vi_get (argb _ (g_mem hj))))))) fun H6 e6 => ⟨e5.trans e6, some (vi (g args j)), ?_⟩
        rw [at_take hj]
        rfl
      · subst hσ
        rw [List.length_map, List.take_length]
        have lt36 : at_ n b args < t.length := by rw [tab.len]; exact lo
        have e05 := e04.trans e5
        have oldv : ∀ {σ : L2.St} {H' : Hp}, Ex H5 H' → σ[1]? = some (some (.ref ta)) → σ[8]? = some (some (vi (at_ n b args))) → Ev (tOp (rIxT K) (tVar 1) (tVar 8)) σ H' (vi (M25.old n t args b)) := fun e a1 a8 => ev_op (ev_var a1) (ev_var a8) (rv_ixT (K := K) (ex_t (e05.trans e) sta) (atI_vi (vi_get lt36)))
        have ol : M25.old n t args b < n := tab.low _ (by rw [← tab.len]; exact lt36)
        refine q_asg (v := .int (nmOf b (M25.old n t args b))) (ev_op (ev_var rfl) (oldv (Ex.refl _) rfl rfl) (rv_ixT (K := K) (ex_t e05 sza) (atI_vi (by rw [List.getElem?_map, nms_at ol]; rfl)))) fun H6 e6 => ?_
        have e06 := e05.trans e6
        refine q_asg (v := vi (M25.told n t args b)) (ev_if (b := !decide (M25.old n t args b ∈ b)) (et_is (et_test (ev_op (ev_var rfl) ev_c rv_I0)) (by
          by_cases z : M25.old n t args b ∈ b
          · rw [decide_eq_true z, decide_eq_false (fun y => nm_neg.mp y z)]
            rfl
          · rw [decide_eq_false z, decide_eq_true (nm_neg.mpr z)]
            rfl)) (fun hb => ev_is (ev_lenT (ev_var rfl) (ex_t e06 sua)) (by
              have z : M25.old n t args b ∉ b := fun z => by rw [decide_eq_true z] at hb; cases hb
              unfold M25.told
              rw [if_neg z, List.length_map])) (fun hb => ev_is (ev_var rfl) (by
              have z : M25.old n t args b ∈ b := by
                by_cases z : M25.old n t args b ∈ b
                · exact z
                · rw [decide_eq_false z] at hb; cases hb
              unfold M25.told nmOf
              rw [if_pos z, if_pos z]))) fun H7 e7 => ?_
        have e07 := e06.trans e7
        have e37 : Ex H3 H7 := (e4.trans e5).trans (e6.trans e7)
        have snoc : bs.take (i + 1) = bs.take i ++ [b] := by rw [List.take_add_one, hbi]; rfl
        have bsn : best n t args (bs.take (i + 1)) n = min (best n t args (bs.take i) n) (M25.told n t args b) := by rw [snoc, best_snoc]
        refine q_cut (M := fun σ H' => Ex H H' ∧ ∃ kp ws, H kp = none ∧ H' kp = some (.lst ws) ∧ Paired (fun v b => Beg K n v b H') ws (keptL n t args (bs.take i) (best n t args (bs.take (i + 1)) n)) ∧ σ = [some (vi n), some (.ref ta), some (.ref aa), some (.ref ba), some (vi (best n t args (bs.take (i + 1)) n)), some (.ref kp), some (.ref ua), some (.ref za), some (vi (at_ n b args)), y9, some (.int (nmOf b (M25.old n t args b))), some (vi (M25.told n t args b))]) ?_ fun σ H8 ⟨e8, kp, ws, nkp, hkp, pws, hσ⟩ => ?_
        · refine s_when (b := decide (M25.told n t args b < best n t args (bs.take i) n)) (et_is (et_test (ev_op (ev_var rfl) (ev_var rfl) rv_I0)) (decide_eq_decide.mpr Int.ofNat_lt)) (fun hb H8 e8 => ?_) (fun hb H8 e8 => ?_)
          · have lt := of_decide_eq_true hb
            have bm : best n t args (bs.take (i + 1)) n = M25.told n t args b := by rw [bsn]; exact Nat.min_eq_right (Nat.le_of_lt lt)
            refine q_asg (ev_var rfl) fun H9 e9 => ?_
            refine s_asgL (el_lst ea_nil (Nat.zero_le _)) fun kp2 H10 nk2 e10 hk2 => ⟨((e07.trans e8).trans e9).trans e10, kp2, [], fresh_back ((e07.trans e8).trans e9) nk2, hk2, ?_, ?_⟩
            · rw [bm, keptL_low lt]
              exact .nil
            · rw [bm]
              rfl
          · have le : best n t args (bs.take i) n ≤ M25.told n t args b := by
              have := of_decide_eq_false hb
              omega
            have bm : best n t args (bs.take (i + 1)) n = best n t args (bs.take i) n := by rw [bsn]; exact Nat.min_eq_left le
            refine ⟨e07.trans e8, kp, ws, nkp, (e37.trans e8) _ _ hkp, ?_, ?_⟩
            · rw [bm]
              exact paired_imp (fun _ _ z => Beg.et (Dw.Ex.et (e37.trans e8)) z) pws
            · rw [bm]
              rfl
        · subst hσ
          have lw : ws.length ≤ 720 := by
            rw [paired_len pws]
            refine Nat.le_trans keptL_len ?_
            rw [List.length_take]
            omega
          refine s_when (b := decide (M25.told n t args b = best n t args (bs.take (i + 1)) n)) (et_is (et_test (ev_op (ev_var rfl) (ev_var rfl) (rv_eq rfl))) (decide_eq_decide.mpr ⟨fun z => Int.ofNat.inj (V.int.inj z), fun z => by rw [z]⟩)) (fun hb H9 e9 => ?_) (fun hb H9 e9 => ?_)
          · have eq := of_decide_eq_true hb
            have e09 := e8.trans e9
            have nums : Nats K H9 (.ref ua) b := ⟨ua, rfl, ex_t e09 sua⟩
            have nam : TV K H9 (.ref za) ((nms n b).map V.int) := ⟨za, rfl, ex_t e09 sza⟩
            have hk9 := e9 _ _ hkp
            have val : EvP (tIf (tTest (tOp (rI0 fun i j => .bl (decide (i < j))) (tVar 10) (tC (.int 0)))) (tCall (sp_with_called K) [] E0 (tCons (tVar 6) (tCons (tVar 7) (tCons (tOp (rIxT K) (tVar 1) (tVar 8)) tNil)))) (tTup (tCons (tVar 6) (tCons (tVar 7) tNil)))) [some (vi n), some (.ref ta), some (.ref aa), some (.ref ba), some (vi (best n t args (bs.take (i + 1)) n)), some (.ref kp), some (.ref ua), some (.ref za), some (vi (at_ n b args)), y9, some (.int (nmOf b (M25.old n t args b))), some (vi (M25.told n t args b))] H9 (fun v H' => Beg K n v (kept n t args b) H') := by
              by_cases z : M25.old n t args b ∈ b
              · refine fun G e Q q => et_test (ev_op (ev_var rfl) ev_c rv_I0) G e _ fun G2 e2 => ?_
                rw [decide_eq_false (fun y => nm_neg.mp y z)]
                refine ifF ?_
                refine (ep_tup2 (K := K) (P := fun v H' => Nats K H' v b) (R2 := fun v H' => TV K H' v ((nms n b).map V.int)) (ep_ev (ev_var rfl) fun H' e' => nums.ex e') (ep_ev (ev_var rfl) fun H' e' => nam.ex e') (fun v H H' e h => h.ex e) (fun v H H' e h => h.ex e)) G2 (e.trans e2) _ fun v G3 e3 ⟨p, u, w, ev, sp, h1, h2⟩ => q v G3 (e2.trans e3) ?_
                show Beg K n v (kept n t args b) G3
                unfold kept
                rw [if_pos z]
                exact ⟨p, u, w, ev, sp, h1, h2⟩
              · refine fun G e Q q => et_test (ev_op (ev_var rfl) ev_c rv_I0) G e _ fun G2 e2 => ?_
                rw [decide_eq_true (nm_neg.mpr z)]
                refine ifT ?_
                refine (ep_call (n, ln bs, b, M25.old n t args b) (ea_cons (ev_var rfl) (ea_cons (ev_var rfl) (ea_cons (ev_op (ev_var rfl) (ev_var rfl) (rv_ixT (K := K) (ex_t e09 sta) (atI_vi (vi_get lt36)))) ea_nil))) fun H' e' => ⟨⟨_, _, rfl, nums.ex e', nam.ex e'⟩, bb, ol, z, n6⟩) G2 (e.trans e2) _ fun v G3 e3 h => q v G3 (e2.trans e3) ?_
                show Beg K n v (kept n t args b) G3
                unfold kept
                rw [if_neg z]
                exact h
            refine s_appP hk9 (ev_var rfl) val (by omega) fun v H10 e10 hv => ⟨(e09.trans e10).mut nkp, kp, ws ++ [v], _, _, _, _, _, _, nkp, upd_same, ?_, rfl⟩
            have et : ET K H10 (upd H10 kp (.lst (ws ++ [v]))) := ET.refl.upd (e10 _ _ hk9)
            rw [snoc, keptL_snoc, ← snoc, if_pos eq]
            have pw2 : Paired (fun z b => Beg K n z b (upd H10 kp (.lst (ws ++ [v])))) ws (keptL n t args (bs.take i) (best n t args (bs.take (i + 1)) n)) := paired_imp (fun _ _ z => Beg.et (ET.trans (Dw.Ex.et (e9.trans e10)) et) z) pws
            exact paired_snoc' (R := fun z b => Beg K n z b (upd H10 kp (.lst (ws ++ [v])))) (Beg.et et hv) pw2
          · have ne := of_decide_eq_false hb
            refine ⟨e8.trans e9, kp, ws, _, _, _, _, _, _, nkp, e9 _ _ hkp, ?_, rfl⟩
            rw [snoc, keptL_snoc, ← snoc, if_neg ne, List.append_nil]
            exact paired_imp (fun _ _ z => Beg.et (Dw.Ex.et e9) z) pws
    · subst hσ
      have full : bs.take us.length = bs := List.take_of_length_le (by rw [lus]; exact Nat.le_refl _)
      rw [full] at pws
      refine s_retU (eu_tup (ea_cons (ev_var rfl) (ea_cons (ev_var rfl) ea_nil)) (by show 2 ≤ 100000; decide)) fun p H4 np e4 hp => q _ H4 (e3.trans e4) ⟨p, kp, rfl, ?_, nkp, kp, ws, rfl, e4 _ _ hkp, paired_imp (fun _ _ z => Beg.et (Dw.Ex.et e4) z) pws⟩
      rw [full] at hp
      exact st_of hp
end
end K24
end
section
namespace K24
open PySem PySem.Spec PyProof.Rows L2 Evl RZ Dw M20 M25
section
variable {σ : L2.St} {H H' : Hp} {K : PySem.W.Frag}
theorem flat_rep1 {α : Type} (x : α) : ∀ j, (List.replicate j [x]).flatten = List.replicate j x
  | 0 => rfl
  | j + 1 => by rw [List.replicate_succ, List.flatten_cons, flat_rep1 x j, List.replicate_succ]; rfl
theorem tv_rep {ta tk : TE} {x : V} {j : Nat} (ha : Ev ta σ H x) (hk : Ev tk σ H (vi j)) (h1 : j ≤ 10) : EvP (tOp (rRepTA K) (tTup (tCons ta tNil)) tk) σ H (fun v H' => TV K H' v (List.replicate j x)) := fun H1 e Q q => by
  refine do_op (eu_tup (ea_cons ha ea_nil) (by show 1 ≤ 100000; decide) H1 e _ fun l H2 _ e2 hl => hk H2 (e.trans e2) _ fun H3 e3 => ?_)
  have x13 := e2.trans e3
  refine ⟨l, (j : Int), [x], rfl, rfl, st_of (e3 _ _ hl), by simp, by omega, by omega, by show 1 ≤ 1000; decide, fun k0 p np => ?_, fun k1 => ?_, fun k2 p np => ?_⟩
  · refine q _ _ (x13.trans (Ex.new np)) ⟨p, rfl, ?_⟩
    rw [show j = 0 by omega]
    exact st_of upd_same
  · refine q _ _ x13 ⟨l, rfl, ?_⟩
    rw [show j = 1 by omega]
    exact st_of (e3 _ _ hl)
  · refine q _ _ (x13.trans (Ex.new np)) ⟨p, rfl, ?_⟩
    rw [Int.toNat_natCast, flat_rep1]
    exact st_of upd_same
theorem need_pos {row : List Nat} (h : row ≠ []) : 1 ≤ need row := by
  cases row with
  | nil => exact absurd rfl h
  | cons k ks =>
    show 1 ≤ max (k + 1) (need ks)
    omega
theorem ev_maxT {ta : TE} {a : Addr} {row : List Nat} (h : Ev ta σ H (.ref a)) (s : SqT K H a (row.map vi)) (ne : row ≠ []) : Ev (tCB (rMaxT K) (tCons ta tNil)) σ H (vi (need row - 1)) := fun H1 e Q q =>
  h H1 e _ fun H2 e2 => ⟨a, row.map fun k => ((k : Nat) : Int), rfl, by rw [← ints_vi]; exact ex_t (e.trans e2) s, by
    rw [List.length_map]
    exact List.length_pos_iff.mpr ne, fun m hm le => by
    obtain ⟨k, hk, rfl⟩ := List.mem_map.mp hm
    have : need row = k + 1 := need_max hk fun j hj => by
      have := le _ (List.mem_map.mpr ⟨j, hj, rfl⟩)
      omega
    rw [this] at q
    exact q H2 e2⟩
end
def ptl (sg : List (Str × Nat)) (ts : List (List Nat)) : List PT := List.zipWith (fun p t => (p.2, t)) sg ts
theorem ptl_len {sg : List (Str × Nat)} {ts : List (List Nat)} (h : ts.length = sg.length) : (ptl sg ts).length = sg.length := by
  unfold ptl
  rw [List.length_zipWith, h, Nat.min_self]
theorem ptl_at {sg : List (Str × Nat)} {ts : List (List Nat)} {i : Nat} (h1 : i < sg.length) (h2 : i < ts.length) : (ptl sg ts)[i]? = some (sg[i].2, ts[i]) := by
  unfold ptl
  rw [List.getElem?_zipWith, List.getElem?_eq_getElem h1, List.getElem?_eq_getElem h2]
theorem ptl_ok {sg : List (Str × Nat)} {n : Nat} {ts : List (List Nat)} (so : SigOk sg) (m : MdlOk sg n ts) : TabsOk n (ptl sg ts) := fun x hx => by
  obtain ⟨i, hi⟩ := List.mem_iff_getElem?.mp hx
  have lt := (List.getElem?_eq_some_iff.mp hi).1
  rw [ptl_len m.len] at lt
  have l2 : i < ts.length := by rw [m.len]; exact lt
  rw [ptl_at lt l2] at hi
  rw [← Option.some.inj hi]
  exact ⟨so.pl _ (List.getElem_mem lt), m.tab i lt l2⟩
section
variable {P : Program} {w : World} {K : PySem.W.Frag} {mg : Str → Option Value} {base : Heap}
abbrev MArg := List (Str × Nat) × Nat × List (List Nat)
def sp_least_begins (K : PySem.W.Frag) : Sp := spX (fun (p : List (Str × Nat) × Nat × List (List Nat)) vs H => (∃ u v, vs = [u, vi p.2.1, v] ∧ Sig K H u p.1 ∧ Tabs K H v p.2.2) ∧ SigOk p.1 ∧ MdlOk p.1 p.2.1 p.2.2)
  (fun p v H => ∃ q x y, v = .ref q ∧ SqT K H q [x, y] ∧ Tabs K H x (least p.2.1 (ptl p.1 p.2.2)) ∧ Begs K p.2.1 H y (tabB p.2.1 (ptl p.1 p.2.2) [[]]))
theorem tabs_take_good {n : Nat} (h1 : 0 < n) {l : List PT} (ok : TabsOk n l) (i : Nat) : Good n (tabB n (l.take i) [[]]) := (tab_good h1 (fun x hx => ok x (List.mem_of_mem_take hx)) (start_good n)).1
theorem c_least_begins (T : Txt mg) (D : Df K mg "least_begins" s_least_begins ["signature", "size", "tables"]) (c_rows_below : Cl P w K mg base 1 "rows_below" (sp_rows_below K)) (c_is_same_for_all : Cl P w K mg base 3 "is_same_for_all" (sp_is_same K)) (c_all_called : Cl P w K mg base 2 "all_called" (sp_all_called K)) (c_least_worth : Cl P w K mg base 2 "least_worth" (sp_least_worth K)) : Cl P w K mg base 4 "least_begins" (sp_least_begins K) := by
  refine cl_of (k := 3) D sc_least_begins (fun vs H Q E h => ?_) (fun f cdv A outer s H vs Q E hr h => ?_)
  · obtain ⟨p, ⟨⟨u, v, rfl, _⟩, _⟩, _⟩ := h
    rfl
  · obtain ⟨⟨sg, n, ts⟩, ⟨⟨u, v, rfl, hG, hT⟩, sok, mok⟩, q⟩ := h
    refine ⟨_, (pss_cons (ps_set (i := 3) sc_least_begins.nd rfl (.inl rfl) (pe_lst (pa_cons (pe_tup (pa_cons (pe_tup pa_nil) (pa_cons (pe_op op_repTA (pe_tup (pa_cons (pe_un un_neg pe_int) pa_nil)) (pv 1)) pa_nil))) pa_nil)))
      (pss_cons (ps_set (i := 4) sc_least_begins.nd rfl (.inl rfl) (pe_lst pa_nil))
      (pss_cons (ps_for PassesOwn.never (by rfl) (pi_zipA (by rfl) T.z_zip (pa_cons (pv 0) (pa_cons (pv 2) pa_nil))) (pg_tup (by rfl) (pgs_cons (pg_tup (by rfl) (pgs_cons (pg_name (i := 5) sc_least_begins.nd rfl (.inl rfl)) (pgs_cons (pg_name (i := 6) sc_least_begins.nd rfl (.inl rfl)) pgs_nil))) (pgs_cons (pg_name (i := 7) sc_least_begins.nd rfl (.inl rfl)) pgs_nil)))
        (pss_cons (ps_if (pt_val (pe_cl c_is_same_for_all hr (by first | decide | omega) (by rfl) (pa_cons (pv 1) (pa_cons (pv 6) (pa_cons (pv 7) pa_nil)))))
          (pss_cons (ps_expr (pe_bm PySem.F.plainAttrs_list PySem.F.slot_list_append PySem.F.type_list_append mt_append (pv 4) (pa_cons (pv 7) pa_nil)))
          (pss_one ps_continue))
          pss_nil)
        (pss_cons (ps_set (i := 8) sc_least_begins.nd rfl (.inl rfl) (pe_lst pa_nil))
        (pss_cons (ps_for PassesOwn.never (by rfl) (pi_list (pe_cl c_rows_below hr (by first | decide | omega) (by rfl) (pa_cons (pv 1) (pa_cons (pv 6) pa_nil)))) (pg_name (i := 9) sc_least_begins.nd rfl (.inl rfl))
          (pss_cut (ps_if (pt_truth (pv 9) (by intro _; rfl))
            (pss_one (ps_set (i := 3) sc_least_begins.nd rfl (.inl rfl) (pe_cl c_all_called hr (by first | decide | omega) (by rfl) (pa_cons (pv 3) (pa_cons (pe_op op_add (pe_callB (cr_maxT rfl hr) (by rfl) T.z_max (by decide +kernel) (pa_cons (pv 9) pa_nil)) pe_int) pa_nil)))))
            pss_nil)
          (pss_cons (ps_asg (pe_cl c_least_worth hr (by first | decide | omega) (by rfl) (pa_cons (pv 1) (pa_cons (pv 7) (pa_cons (pv 9) (pa_cons (pv 3) pa_nil))))) (pg_tup (by rfl) (pgs_cons (pg_name (i := 10) sc_least_begins.nd rfl (.inl rfl)) (pgs_cons (pg_name (i := 3) sc_least_begins.nd rfl (.inl rfl)) pgs_nil))))
          (pss_one (ps_expr (pe_bm PySem.F.plainAttrs_list PySem.F.slot_list_append PySem.F.type_list_append mt_append (pv 8) (pa_cons (pv 10) pa_nil)))))))
        (pss_one (ps_expr (pe_bm PySem.F.plainAttrs_list PySem.F.slot_list_append PySem.F.type_list_append mt_append (pv 4) (pa_cons (pe_callTy call_tuple_of (by rfl) T.z_tuple (by decide +kernel) (pa_cons (pv 8) pa_nil)) pa_nil))))))))
      (pss_one (ps_ret (pe_tup (pa_cons (pe_callTy call_tuple_of (by rfl) T.z_tuple (by decide +kernel) (pa_cons (pv 4) pa_nil)) (pa_cons (pv 3) pa_nil)))))))), ?_⟩
    replace sok : SigOk sg := sok
    replace mok : MdlOk sg n ts := mok
    have n1 : 1 ≤ n := mok.n1
    have n6 : n ≤ 6 := mok.n6
    have ok := ptl_ok sok mok
    obtain ⟨a, us, rfl, hS, hP⟩ := id hG
    obtain ⟨b, tvs, rfl, hB, hR⟩ := id hT
    replace hP : Paired (Deed K H) us sg := hP
    replace hR : Paired (Nats K H) tvs ts := hR
    have lS : us.length = sg.length := paired_len hP
    have lT : tvs.length = ts.length := paired_len hR
    have lM : ts.length = sg.length := mok.len
    have s4 := sok.l4
    -- the first begin
    refine do_set (do_lst (do_cons ((ep_tup2 (K := K) (P := fun v H' => Nats K H' v []) (R2 := fun v H' => TV K H' v ((nms n []).map V.int)) (tv_nats (tv_tup ea_nil (Nat.zero_le _))) (tv_is (tv_rep (ev_un ev_c ru_neg) (ev_var rfl) (by show n ≤ 10; omega)) (by rw [nms_nil, List.map_replicate])) (fun v H H' e h => h.ex e) (fun v H H' e h => h.ex e)) H (Ex.refl H) _ fun v0 H1 e1 hv0 => do_nil ⟨by show 1 ≤ sizeLine; decide, fun b0 nb0 => ?_⟩)))
    have b0v : Beg K n v0 [] H1 := hv0
    have e2 : Ex H1 (upd H1 b0 (.lst [v0])) := Ex.new nb0
    have hb0 : (upd H1 b0 (.lst [v0])) b0 = some (.lst [v0]) := upd_same
    generalize upd H1 b0 (.lst [v0]) = H2 at *
    have e02 := e1.trans e2
    refine q_asgL (el_lst ea_nil (Nat.zero_le _)) fun m H3 nm e3 hm => ?_
    have e03 := e02.trans e3
    have nmH : H m = none := fresh_back e02 nm
    have bm : b0 ≠ m := fun z => by rw [← z, hb0] at nm; cases nm
    refine q_zipT (ea_cons (ev_var rfl) (ea_cons (ev_var rfl) ea_nil)) (ex_t e03 hS) (ex_t e03 hB) (by rw [lS, lT, lM]) (fun i σ H' => Ex H H' ∧ ∃ ba ws y5 y6 y7 y8 y9 y10, ba ≠ m ∧ Begs K n H' (.ref ba) (tabB n ((ptl sg ts).take i) [[]]) ∧ H' m = some (.lst ws) ∧ Paired (Nats K H') ws (tabV n ((ptl sg ts).take i) [[]]) ∧ σ = [some (.ref a), some (vi n), some (.ref b), some (.ref ba), some (.ref m), y5, y6, y7, y8, y9, y10])
      (fun H4 e4 => ⟨e03.trans e4, b0, [], none, none, none, none, none, none, bm, ⟨b0, [v0], rfl, e4 _ _ (e3 _ _ hb0), .cons (Beg.et (Dw.Ex.et ((e2.trans e3).trans e4)) b0v) .nil⟩, e4 _ _ hm, .nil, rfl⟩) (fun i σ H' _ ⟨e, _⟩ => ⟨ex_t e hS, ex_t e hB⟩) (fun i d tv p σ H4 hd ht ⟨e4, ba, ws, y5, y6, y7, y8, y9, y10, nbm, hba, hws, pws, hσ⟩ np => ?_) (fun σ H4 ⟨e4, ba, ws, y5, y6, y7, y8, y9, y10, nbm, hba, hws, pws, hσ⟩ => ?_)
    · subst hσ
      have hi : i < sg.length := by rw [← lS]; exact (List.getElem?_eq_some_iff.mp hd).1
      have hi2 : i < ts.length := by rw [lM]; exact hi
      obtain ⟨d', ed', c, hc, dc⟩ := paired_get hP (List.getElem?_eq_getElem hi)
      have : d' = d := Option.some.inj (ed'.symm.trans hd)
      subst this
      subst hc
      obtain ⟨t', et', nt⟩ := paired_get hR (List.getElem?_eq_getElem hi2)
      have : t' = tv := Option.some.inj (et'.symm.trans ht)
      subst this
      have e5 : Ex H4 (upd H4 p (.tup [.ref c, t'])) := Ex.new np
      have hp5 : (upd H4 p (.tup [.ref c, t'])) p = some (.tup [.ref c, t']) := upd_same
      generalize upd H4 p (.tup [.ref c, t']) = H5 at *
      have e05 : Ex H H5 := e4.trans e5
      have p2 : sg[i].2 ≤ 2 := sok.pl _ (List.getElem_mem hi)
      have tb : Tab n sg[i].2 ts[i] := mok.tab i hi hi2
      have snoc : (ptl sg ts).take (i + 1) = (ptl sg ts).take i ++ [(sg[i].2, ts[i])] := by rw [List.take_add_one, ptl_at hi hi2]; rfl
      have gd := tabs_take_good n1 ok i
      have lw : ws.length ≤ 4 := by
        rw [paired_len pws, tabV_len, List.length_take, ptl_len lM]
        omega
      refine ⟨p, _, rfl, st_of hp5, rfl, _, _, rfl, ⟨c, _, rfl, ex_t e05 dc, rfl, _, _, rfl, _, _, rfl, rfl, ?_⟩⟩
      refine ⟨_, _, rfl, rfl, ?_⟩
      have nt5 := nt.ex e05
      refine q_when (b := M25.same n sg[i].2 ts[i]) (et_val (ev_callV (v := .bl (M25.same n sg[i].2 ts[i])) (n, sg[i].2, ts[i]) (ea_cons (ev_var rfl) (ea_cons (ev_var rfl) (ea_cons (ev_var rfl) ea_nil))) (fun H6 e6 => ⟨⟨_, rfl, nt5.ex e6⟩, tb, n1, n6, p2⟩) (fun _ _ z => z))) (fun hb H6 e6 => ?_) (fun hb H6 e6 => ?_)
      · have e46 := e5.trans e6
        have hm6 := e46 _ _ hws
        refine q_app hm6 (ev_var rfl) (ev_var rfl) (by omega) fun H7 e7 => ?_
        have hm7 := e7 _ _ hm6
        have e47 := e46.trans e7
        refine ⟨(e4.trans e47).mut nmH, ba, ws ++ [t'], _, _, _, _, _, _, nbm, ?_, upd_same, ?_, rfl⟩
        · rw [snoc, tabB_snoc]
          unfold tab1B
          rw [if_pos hb]
          obtain ⟨a', vs', ea, ha', pv'⟩ := hba
          cases ea
          have et : ET K H7 (upd H7 m (.lst (ws ++ [t']))) := ET.refl.upd hm7
          exact ⟨ba, vs', rfl, by rw [upd_ne nbm]; exact e47 _ _ ha', paired_imp (fun _ _ z => Beg.et (ET.trans (Dw.Ex.et e47) et) z) pv'⟩
        · rw [snoc, tabV_snoc]
          unfold tab1V
          rw [if_pos hb]
          have et : ET K H7 (upd H7 m (.lst (ws ++ [t']))) := ET.refl.upd hm7
          exact paired_snoc' (R := Nats K (upd H7 m (.lst (ws ++ [t'])))) (Nats.et (ET.trans (Dw.Ex.et (e6.trans e7)) et) nt5) (paired_imp (fun _ _ z => Nats.et (ET.trans (Dw.Ex.et e47) et) z) pws)
      · refine q_asgL (el_lst ea_nil (Nat.zero_le _)) fun r H7 nr e7 hr7 => ?_
        have e47 := (e5.trans e6).trans e7
        have nr4 : H4 r = none := fresh_back (e5.trans e6) nr
        have rm : r ≠ m := fun z => by rw [z, hws] at nr4; cases nr4
        have bar : ba ≠ r := fun z => by
          obtain ⟨a', vs', ea, ha', _⟩ := hba
          cases ea
          rw [z, nr4] at ha'
          cases ha'
        refine q_forPL (ep_call (n, sg[i].2) (ea_cons (ev_var rfl) (ea_cons (ev_var rfl) ea_nil)) fun H8 e8 => ⟨rfl, n6, p2⟩) fun ra xs H8 e8 hra pxs => ?_
        replace pxs : Paired (Nats K H8) xs (rows n sg[i].2) := pxs
        have lx : xs.length = n ^ sg[i].2 := by rw [paired_len pxs, rows_len']
        have lx36 : xs.length ≤ 36 := by rw [lx]; exact pow_small' n6 p2
        have hr8 := e8 _ _ hr7
        have rar : ra ≠ r := fun z => by
          rw [z, hr8] at hra
          have : xs = [] := by cases hra; rfl
          rw [this] at lx
          have : 0 < n ^ sg[i].2 := Nat.pow_pos n1
          exact absurd lx (by show (0 : Nat) ≠ _; omega)
        have e68 := e7.trans e8
        have e48 := e47.trans e8
        have hm8 := e48 _ _ hws
        refine ⟨fun j σ H' => Ex H6 H' ∧ ET K H8 H' ∧ H' ra = some (.lst xs) ∧ ∃ ba y9 y10, ba ≠ m ∧ ba ≠ r ∧ Begs K n H' (.ref ba) (rowB n ts[i] (tabB n ((ptl sg ts).take i) [[]]) ((rows n sg[i].2).take j)) ∧ H' r = some (.lst ((rowV n ts[i] (tabB n ((ptl sg ts).take i) [[]]) ((rows n sg[i].2).take j)).map vi)) ∧ σ = [some (.ref a), some (vi n), some (.ref b), some (.ref ba), some (.ref m), some (.str sg[i].1), some (vi sg[i].2), some t', some (.ref r), y9, y10],
          ⟨e68, ET.refl, hra, ba, y9, y10, nbm, bar, hba.ex e48, hr8, rfl⟩, fun j σ' H' _ ⟨_, _, h, _⟩ => sq_of h, fun j x σ H9 hx ⟨e9, et9, hra9, ba9, y9, y10, nbm9, bar9, hba9, hr9, hσ⟩ => ?_, fun σ H9 ⟨e9, et9, hra9, ba9, y9, y10, nbm9, bar9, hba9, hr9, hσ⟩ => ?_⟩
        · subst hσ
          obtain ⟨row, hrow, hx8⟩ := paired_at pxs hx
          have hx9 : Nats K H9 x row := hx8.et et9
          have rin : row ∈ rows n sg[i].2 := List.mem_iff_getElem?.mpr ⟨j, hrow⟩
          obtain ⟨ro1, ro2⟩ := rows_of rin
          have rsn : (rows n sg[i].2).take (j + 1) = (rows n sg[i].2).take j ++ [row] := by rw [List.take_add_one, hrow]; rfl
          have gr := (row_good tb (as := (rows n sg[i].2).take j) gd fun _ z => List.mem_of_mem_take z).1
          obtain ⟨xa, rfl, sxa⟩ := id hx9
          have e49 : Ex H H9 := (e05.trans e6).trans e9
          generalize hbs : rowB n ts[i] (tabB n ((ptl sg ts).take i) [[]]) ((rows n sg[i].2).take j) = bs at *
          refine do_name ?_
          refine q_cut (M := fun σ H' => Ex H9 H' ∧ ∃ ba2 y10, Begs K n H' (.ref ba2) (grow n (need row) bs) ∧ σ = [some (.ref a), some (vi n), some (.ref b), some (.ref ba2), some (.ref m), some (.str sg[i].1), some (vi sg[i].2), some t', some (.ref r), some (.ref xa), y10]) ?_ fun σ H10 ⟨e10, ba2, y10, hba2, hσ⟩ => ?_
          · refine s_when (et_truTup (ev_var rfl) sxa) (fun hb H10 e10 => ?_) (fun hb H10 e10 => ?_)
            · have rne : row ≠ [] := fun z => by rw [z] at hb; cases hb
              refine s_asgP (P := fun v H' => Begs K n H' v (grow n (need row) bs)) (ep_call (n, bs, need row) (ea_cons (ev_var rfl) (ea_cons (x := vi (need row)) (ev_is (ev_addM (b := 1) (ev_maxT (ev_var rfl) (ex_t e10 sxa) rne) ev_c) (by rw [Nat.sub_add_cancel (need_pos rne)])) ea_nil)) fun H11 e11 => ⟨⟨_, rfl, hba9.ex (e10.trans e11)⟩, gr, need_le ro2, n6⟩) fun v H11 e11 hv => ?_
              · obtain ⟨ba2, vs2, rfl, _, _⟩ := id hv
                exact ⟨e10.trans e11, ba2, _, hv, rfl⟩
            · have re : row = [] := by
                cases row with
                | nil => rfl
                | cons k ks => cases hb
              subst re
              exact ⟨e10, ba9, _, by rw [grow_done (n := n) (many := need []) (bs := bs) (Nat.not_lt_zero _)]; exact hba9.ex e10, rfl⟩
          · subst hσ
            obtain ⟨gg1, gg2, _⟩ := grow_good (many := need row) gr (need_le ro2)
            have hr10 := e10 _ _ hr9
            have hm9 := e9 _ _ (e5.trans e6 _ _ hws)
            refine do_seq (do_asg ((ep_callG (P := fun v H' => ∃ p a, v = .ref p ∧ SqT K H' p [vi (stepV n ts[i] bs row), .ref a] ∧ H10 a = none ∧ Begs K n H' (.ref a) (stepB n ts[i] bs row)) ⟨n, sg[i].2, ts[i], row, grow n (need row) bs⟩ (ea_cons (ev_var rfl) (ea_cons (ev_var rfl) (ea_cons (ev_var rfl) (ea_cons (ev_var rfl) ea_nil)))) (fun H11 e11 => ⟨⟨_, _, _, rfl, nt5.ex ((e6.trans e9).trans (e10.trans e11)), hx9.ex (e10.trans e11), hba2.ex e11⟩, ⟨n1, n6, p2, tb, rin, gg1, gg2⟩⟩) (fun H11 v H12 e11 e12 ⟨p, a, ev, sp, na, hb⟩ => ⟨p, a, ev, sp, fresh_back e11 na, hb⟩)) H10 (Ex.refl _) _ fun v H11 e11 ⟨p', a', ev, sp', na', hb'⟩ => ?_))
            subst ev
            refine ⟨p', _, rfl, sp', rfl, _, _, rfl, _, _, rfl, rfl, ?_⟩
            have hr11 := e11 _ _ hr10
            have am : a' ≠ m := fun z => by rw [z, e10 _ _ hm9] at na'; cases na'
            have ar : a' ≠ r := fun z => by rw [z, hr10] at na'; cases na'
            refine s_app hr11 (ev_var rfl) (ev_var rfl) (by
              rw [List.length_map, rowV_len, List.length_take]
              have := paired_len pxs
              omega) fun H12 e12 => ?_
            have hr12 := e12 _ _ hr11
            have e912 := (e10.trans e11).trans e12
            have et : ET K H12 (upd H12 r (.lst ((rowV n ts[i] (tabB n ((ptl sg ts).take i) [[]]) ((rows n sg[i].2).take j)).map vi ++ [vi (stepV n ts[i] bs row)]))) := ET.refl.upd hr12
            refine ⟨(e9.trans e912).mut nr, ET.trans (ET.trans et9 (Dw.Ex.et e912)) et, by rw [upd_ne rar]; exact e912 _ _ hra9, a', _, _, am, ar, ?_, ?_, rfl⟩
            · rw [rsn, rowB_snoc, hbs]
              obtain ⟨a2, vs2, ea, ha2, pv2⟩ := hb'
              cases ea
              exact ⟨a', vs2, rfl, by rw [upd_ne ar]; exact e12 _ _ ha2, paired_imp (fun _ _ z => Beg.et (ET.trans (Dw.Ex.et e12) et) z) pv2⟩
            · rw [upd_same, rsn, rowV_snoc, hbs, List.map_append]
              rfl
        · subst hσ
          have full : (rows n sg[i].2).take xs.length = rows n sg[i].2 := List.take_of_length_le (by rw [paired_len pxs]; exact Nat.le_refl _)
          rw [full] at hba9 hr9
          have e49 : Ex H4 H9 := (e5.trans e6).trans e9
          have hm9 := e49 _ _ hws
          refine s_appP (P := fun v H' => Nats K H' v (rowV n ts[i] (tabB n ((ptl sg ts).take i) [[]]) (rows n sg[i].2))) hm9 (ev_var rfl) (ep_nats (K := K) (eu_tupL (K := K) (ev_var rfl) (sq_of hr9)) rfl) (by omega) fun v H10 e10 hv => ?_
          have hm10 := e10 _ _ hm9
          have e410 := e49.trans e10
          have et : ET K H10 (upd H10 m (.lst (ws ++ [v]))) := ET.refl.upd hm10
          refine ⟨(e4.trans e410).mut nmH, ba9, ws ++ [v], _, _, _, _, _, _, nbm9, ?_, upd_same, ?_, rfl⟩
          · rw [snoc, tabB_snoc]
            unfold tab1B
            rw [if_neg (by rw [hb]; decide)]
            obtain ⟨a2, vs2, ea, ha2, pv2⟩ := hba9
            cases ea
            exact ⟨ba9, vs2, rfl, by rw [upd_ne nbm9]; exact e10 _ _ ha2, paired_imp (fun _ _ z => Beg.et (ET.trans (Dw.Ex.et e10) et) z) pv2⟩
          · rw [snoc, tabV_snoc]
            unfold tab1V
            rw [if_neg (by rw [hb]; decide)]
            exact paired_snoc' (R := Nats K (upd H10 m (.lst (ws ++ [v])))) (Nats.et et hv) (paired_imp (fun _ _ z => Nats.et (ET.trans (Dw.Ex.et e410) et) z) pws)
    · subst hσ
      have full : (ptl sg ts).take us.length = ptl sg ts := List.take_of_length_le (by rw [ptl_len lM, lS]; exact Nat.le_refl _)
      rw [full] at pws hba
      refine s_retP (ep_tup2 (K := K) (P := fun v H' => Tabs K H' v (least n (ptl sg ts))) (R2 := fun v H' => Begs K n H' v (tabB n (ptl sg ts) [[]])) (fun H5 e5 Q q => eu_tupL (K := K) (ev_var rfl) (sq_of hws) H5 e5 _ fun p H6 np e6 hp => q _ H6 e6 ⟨p, ws, rfl, st_of hp, paired_imp (fun _ _ z => z.ex (e5.trans e6)) pws⟩) (ep_ev (ev_var rfl) fun H5 e5 => hba.ex e5) (fun v H H' e h => h.ex e) (fun v H H' e h => h.ex e)) fun v H5 e5 ⟨p, x, y, ev, sp, hx, hy⟩ => q _ H5 (e4.trans e5) ⟨p, x, y, ev, sp, hx, hy⟩
end
end K24
end
section
namespace K24
open PySem PySem.Spec PyProof.Rows L2 Evl RZ Dw M20 M25
section
variable {σ : L2.St} {H H' : Hp} {K : PySem.W.Frag}
/-- x[i], x by what holds of it -/
theorem ep_ixP {te : TE} {i : Int} {P R : V → Hp → Prop} (h : EvP te σ H P) (k : ∀ v H1, P v H1 → ∃ a xs x, v = .ref a ∧ SqT K H1 a xs ∧ atI xs i = some x ∧ R x H1) : EvP (tOp (rIxT K) te (tC (.int i))) σ H R := fun H1 e Q q =>
  do_op (h H1 e _ fun v H2 e2 hv => by
    obtain ⟨a, xs, x, ev, s, at_, r⟩ := k v H2 hv
    subst ev
    exact ⟨a, xs, i, x, rfl, rfl, s, at_, q x H2 e2 r⟩)
theorem eap_imp {ta : TA} {R R' : List V → Hp → Prop} (h : EvAP ta σ H R) (i : ∀ vs H', R vs H' → R' vs H') : EvAP ta σ H R' := fun H1 e Q q => h H1 e Q fun vs H2 e2 r => q vs H2 e2 (i vs H2 r)
theorem get_map {α β : Type} (L : List α) (d : α) (F : α → β) : (List.range L.length).map (fun i => F (L.getD i d)) = L.map F := by
  apply List.ext_getElem?
  intro i
  by_cases h : i < L.length
  · rw [List.getElem?_map, List.getElem?_map, List.getElem?_range h, List.getElem?_eq_getElem h]
    show some (F (L.getD i d)) = some (F L[i])
    rw [List.getD_eq_getElem?_getD, List.getElem?_eq_getElem h]
    rfl
  · rw [List.getElem?_eq_none_iff.mpr (by simp; omega), List.getElem?_eq_none_iff.mpr (by simp; omega)]
end
section
variable {P : Program} {w : World} {K : PySem.W.Frag} {mg : Str → Option Value} {base : Heap}
/-! ### the orders that lead to the least -/
def sp_orders_to_least (K : PySem.W.Frag) : Sp := spX (fun (p : List (Str × Nat) × Nat × List (List Nat)) vs H => (∃ u v, vs = [u, vi p.2.1, v] ∧ Sig K H u p.1 ∧ Tabs K H v p.2.2) ∧ SigOk p.1 ∧ MdlOk p.1 p.2.1 p.2.2)
  (fun p v H => RowsL K H v (orders p.2.1 (ptl p.1 p.2.2)))
theorem c_orders_to_least (T : Txt mg) (D : Df K mg "orders_to_least" s_orders_to_least ["signature", "size", "tables"]) (c_all_called : Cl P w K mg base 2 "all_called" (sp_all_called K)) (c_least_begins : Cl P w K mg base 4 "least_begins" (sp_least_begins K)) : Cl P w K mg base 5 "orders_to_least" (sp_orders_to_least K) := by
  refine cl_of (k := 4) D sc_orders_to_least (fun vs H Q E h => ?_) (fun f cdv A outer s H vs Q E hr h => ?_)
  · obtain ⟨p, ⟨⟨u, v, rfl, _⟩, _⟩, _⟩ := h
    rfl
  · obtain ⟨⟨sg, n, ts⟩, ⟨⟨u, v, rfl, hG, hT⟩, sok, mok⟩, q⟩ := h
    refine ⟨_, (pss_cons (ps_set (i := 3) sc_orders_to_least.nd rfl (.inl rfl) (pe_cl c_all_called hr (by first | decide | omega) (by rfl) (pa_cons (pe_ix ix_tup (pe_cl c_least_begins hr (by first | decide | omega) (by rfl) (pa_cons (pv 0) (pa_cons (pv 1) (pa_cons (pv 2) pa_nil)))) pe_int (fun _ _ => rfl)) (pa_cons (pv 1) pa_nil))))
      (pss_one (ps_ret (pe_lc (own := [("olds", 4), ("names", 5)]) (g := (gTup _ 2 (gCons (gName 4) (gCons (gName 5) gNil)))) (by rfl) sc_orders_to_least.nd (pi_list (pv 3)) (blkOk_by (own := [("olds", 4), ("names", 5)]) (N := ["signature", "size", "tables", "begins", "olds", "names"]) (sc := (defScope s_orders_to_least)) (by decide +kernel)) (fun _ _ _ _ _ => (pg_tup (by rfl) (pgs_cons (pg_name (i := 4) sc_orders_to_least.nd rfl (.inl rfl)) (pgs_cons (pg_name (i := 5) sc_orders_to_least.nd rfl (.inl rfl)) pgs_nil)))) (fun _ _ _ _ _ => pts_nil) (fun _ _ _ _ _ => (pv 5)))))), ?_⟩
    replace sok : SigOk sg := sok
    replace mok : MdlOk sg n ts := mok
    have n1 : 1 ≤ n := mok.n1
    have n6 : n ≤ 6 := mok.n6
    have ok := ptl_ok sok mok
    have gd := (tab_good n1 ok (start_good n)).1
    obtain ⟨fg, fl⟩ := fin_good n1 ok
    have fb := fg.bgs
    rw [fl] at fb
    have arg : EvAP (tCons (tOp (rIxT K) (tCall (sp_least_begins K) [] E0 (tCons (tVar 0) (tCons (tVar 1) (tCons (tVar 2) tNil)))) (tC (.int 1))) (tCons (tVar 1) tNil)) (start ["signature", "size", "tables", "begins", "olds", "names"] [u, vi n, v]) H (fun vs H' => ∃ y, vs = [y, vi n] ∧ Begs K n H' y (tabB n (ptl sg ts) [[]])) :=
      eap_imp (eap_cons (P := fun y H' => Begs K n H' y (tabB n (ptl sg ts) [[]])) (R := fun vs _ => vs = [vi n]) (ep_ixP (K := K) (ep_call (sg, n, ts) (ea_cons (ev_var rfl) (ea_cons (ev_var rfl) (ea_cons (ev_var rfl) ea_nil))) fun H1 e1 => ⟨⟨_, _, rfl, hG.ex e1, hT.ex e1⟩, sok, mok⟩) fun v H1 ⟨p, x, y, ev, sp, hx, hy⟩ => ⟨p, _, y, ev, sp, rfl, hy⟩) (eap_ev (ea_cons (ev_var rfl) ea_nil) fun _ _ => rfl) (fun v H1 H2 e p => p.ex e)) fun vs H1 ⟨y, r, e, hy, hr⟩ => ⟨y, by rw [e, hr], hy⟩
    refine q_asgP (P := fun v H' => Begs K n H' v (fin n (ptl sg ts))) (ep_callP (n, tabB n (ptl sg ts) [[]], n) arg fun vs H1 _ ⟨y, e, hy⟩ => ⟨⟨y, e, hy⟩, gd, Nat.le_refl n, n6⟩) fun v H1 e1 hv => ?_
    obtain ⟨a, us, rfl, ha, pus⟩ := id hv
    have lus := paired_len pus
    have few := fg.few n6
    refine s_retLP (elp_lc (walk_list (K := K) (a := a) (xs := us)) (fun H0 e0 R r => ⟨.ref a, rfl, a, rfl, ⟨us, ex_l e0 (sq_of ha)⟩, r H0 (Ex.refl _)⟩) (fun H2 e2 => ex_l e2 (sq_of ha)) (by omega) (fun _ => true) (fun v i H' => Nats K H' v (bk ((fin n (ptl sg ts)).getD i []))) (stb_nats (K := K) _) fun i x H2 H3 hi e y => ?_) fun p ws H2 np e2 hp hw => q _ H2 (e1.trans e2) ⟨p, ws, rfl, hp, ?_⟩
    · obtain ⟨rfl, hxi⟩ := y
      obtain ⟨b, hbi, p, u, z, rfl, sp, hu, hz⟩ := paired_at pus hxi
      refine ⟨Ex.refl _, fun Φ k => ⟨p, _, rfl, ex_t e sp, rfl, _, _, rfl, _, _, rfl, rfl, k _ rfl et_yes fun _ => ?_⟩⟩
      have eb : (fin n (ptl sg ts)).getD i [] = b := by rw [List.getD_eq_getElem?_getD, hbi]; rfl
      rw [eb]
      have bb := fb.each b (List.mem_iff_getElem?.mpr ⟨i, hbi⟩)
      refine ep_ev (ev_var rfl) fun H4 e4 => ?_
      have := hz.ex (e.trans e4)
      rw [nms_full bb, ← ints_vi] at this
      exact this
    · rw [range_all] at hw
      have := paired_map (S := Nats K H2) (f := fun i => bk ((fin n (ptl sg ts)).getD i [])) (fun _ _ z => z) hw
      rw [lus, get_map _ [] bk] at this
      exact this
end
end K24
end
section
namespace K24
open PySem PySem.Spec PyProof.Rows L2 Evl RZ Dw M20 M25
section
variable {P : Program} {w : World} {K : PySem.W.Frag} {mg : Str → Option Value} {base : Heap}
/-! ### how many unlike ones -/
def sp_renamings_many (K : PySem.W.Frag) : Sp := spX (fun (p : List (Str × Nat) × Nat × List (List Nat)) vs H => (∃ u v, vs = [u, vi p.2.1, v] ∧ Sig K H u p.1 ∧ Tabs K H v p.2.2) ∧ SigOk p.1 ∧ MdlOk p.1 p.2.1 p.2.2)
  (fun p v _ => v = vi (fact p.2.1 / (orders p.2.1 (ptl p.1 p.2.2)).length))
theorem ord_few {n : Nat} (h1 : 0 < n) {l : List PT} (ok : TabsOk n l) (n6 : n ≤ 6) : (orders n l).length ≤ 720 := by
  unfold orders
  rw [List.length_map]
  exact (fin_good h1 ok).1.few n6
theorem c_renamings_many (T : Txt mg) (D : Df K mg "renamings_many" s_renamings_many ["signature", "size", "tables"]) (c_orders_to_least : Cl P w K mg base 5 "orders_to_least" (sp_orders_to_least K)) : Cl P w K mg base 6 "renamings_many" (sp_renamings_many K) := by
  refine cl_of (k := 5) D sc_renamings_many (fun vs H Q E h => ?_) (fun f cdv A outer s H vs Q E hr h => ?_)
  · obtain ⟨p, ⟨⟨u, v, rfl, _⟩, _⟩, _⟩ := h
    rfl
  · obtain ⟨⟨sg, n, ts⟩, ⟨⟨u, v, rfl, hG, hT⟩, sok, mok⟩, q⟩ := h
    refine ⟨_, (pss_cons (ps_set (i := 3) sc_renamings_many.nd rfl (.inl rfl) pe_int)
      (pss_cons (ps_for PassesOwn.never (by rfl) (pi_range1 (by rfl) T.z_range (pa_cons (pv 1) pa_nil)) (pg_name (i := 4) sc_renamings_many.nd rfl (.inl rfl))
        (pss_one (ps_aug (i := 3) sc_renamings_many.nd rfl (.inl rfl) (pe_op op_add (pv 4) pe_int) ip_mul)))
      (pss_one (ps_ret (pe_op op_fdiv (pv 3) (pe_callB call_len_seq (by rfl) T.z_len PySem.boot_len (pa_cons (pe_cl c_orders_to_least hr (by first | decide | omega) (by rfl) (pa_cons (pv 0) (pa_cons (pv 1) (pa_cons (pv 2) pa_nil)))) pa_nil))))))), ?_⟩
    replace sok : SigOk sg := sok
    replace mok : MdlOk sg n ts := mok
    have n1 : 1 ≤ n := mok.n1
    have n6 : n ≤ 6 := mok.n6
    have ok := ptl_ok sok mok
    have few := ord_few n1 ok n6
    have pos : 0 < (orders n (ptl sg ts)).length := List.length_pos_iff.mpr (orders_ne n1 ok)
    refine q_asg ev_c fun H1 e1 => ?_
    refine q_forR1 (n := (n : Int)) (ea_cons (ev_var rfl) ea_nil) ⟨by omega, by omega⟩ (fun i σ H' => ∃ y, σ = [some u, some (vi n), some v, some (vi (fact i)), y] ∧ Ex H H') (fun H2 e2 => ⟨none, rfl, e1.trans e2⟩) (fun i σ H2 hi ⟨y, hσ, e2⟩ => ?_) (fun σ H2 ⟨y, hσ, e2⟩ => ?_)
    · subst hσ
      have f6 := fact6 (n := i) (by omega)
      refine ⟨_, rfl, ?_⟩
      refine ev_addM (b := 1) (ev_var rfl) ev_c H2 (Ex.refl _) _ fun H3 e3 => ?_
      refine ⟨((fact i : Nat) : Int), ((i + 1 : Nat) : Int), rfl, rfl, .inl ⟨by omega, by omega⟩, some (vi i), ?_, e2.trans e3⟩
      show [some u, some (vi n), some v, some (.int (((fact i : Nat) : Int) * ((i + 1 : Nat) : Int))), some (vi i)] = [some u, some (vi n), some v, some (vi (fact (i + 1))), some (vi i)]
      rw [← Int.natCast_mul]
      rfl
    · subst hσ
      rw [Int.toNat_natCast]
      exact s_ret (ev_divM (ev_var rfl) (ev_lenP (K := K) (ep_call (sg, n, ts) (ea_cons (ev_var rfl) (ea_cons (ev_var rfl) (ea_cons (ev_var rfl) ea_nil))) fun H3 e3 => ⟨⟨_, _, rfl, hG.ex (e2.trans e3), hT.ex (e2.trans e3)⟩, sok, mok⟩) fun v H3 ⟨a, us, ev, ha, pu⟩ => ⟨a, us, ev, sq_of ha, paired_len pu⟩) pos (Nat.le_trans few (by decide))) fun H3 e3 => q _ H3 (e2.trans e3) rfl
/-! ### own orders -/
/-- a new list of orders -/
def OwnV (K : PySem.W.Frag) (G H : Hp) (v : V) (os : List (List Nat)) : Prop := ∃ a vs, v = .ref a ∧ G a = none ∧ H a = some (.lst vs) ∧ Paired (fun v o => FNats H v o) vs os
theorem stb_fnats {β : Type} (f : β → List Nat) : StbB (fun v b H => FNats H v (f b)) := fun _ _ _ _ e ⟨a, ob, q, s, d⟩ => ⟨a, ob, q, e _ _ (fun _ z => by cases z) s, d⟩
theorem OwnV.rows {G H : Hp} {v : V} {os : List (List Nat)} (h : OwnV K G H v os) : RowsL K H v os := let ⟨a, vs, e, _, s, p⟩ := h; ⟨a, vs, e, s, paired_imp (fun _ _ z => z.nats) p⟩
theorem ord_ne {n : Nat} {o : List Nat} (h1 : 1 ≤ n) (h : M20.Ord n o) : o ≠ [] := fun z => by
  have := h.len
  rw [z] at this
  exact absurd this (by show (0 : Nat) ≠ n; omega)
def sp_own_orders_of (K : PySem.W.Frag) : Sp := spG (fun (p : List (Str × Nat) × Nat × List (List Nat)) vs H => (∃ u v, vs = [u, v] ∧ Sig K H u p.1 ∧ Mdl K H v p.2.1 p.2.2) ∧ SigOk p.1 ∧ MdlOk p.1 p.2.1 p.2.2)
  (fun p G v H => OwnV K G H v (srtO (own p.2.1 (ptl p.1 p.2.2))))
theorem c_own_orders_of (T : Txt mg) (D : Df K mg "own_orders_of" s_own_orders_of ["signature", "model"]) (c_orders_to_least : Cl P w K mg base 5 "orders_to_least" (sp_orders_to_least K)) (c_turned_back : Cl P w K mg base 1 "turned_back" (sp_turned_back K)) (c_composed : Cl P w K mg base 1 "composed" (sp_composed K)) : Cl P w K mg base 6 "own_orders_of" (sp_own_orders_of K) := by
  refine cl_of (k := 5) D sc_own_orders_of (fun vs H Q E h => ?_) (fun f cdv A outer s H vs Q E hr h => ?_)
  · obtain ⟨p, ⟨⟨u, v, rfl, _⟩, _⟩, _⟩ := h
    rfl
  · obtain ⟨⟨sg, n, ts⟩, ⟨⟨u, v, rfl, hG, hM⟩, sok, mok⟩, q⟩ := h
    refine ⟨_, (pss_cons (ps_set (i := 2) sc_own_orders_of.nd rfl (.inl rfl) (pe_cl c_orders_to_least hr (by first | decide | omega) (by rfl) (pa_cons (pv 0) (pa_cons (pe_ix ix_tup (pv 1) pe_int (fun _ _ => rfl)) (pa_cons (pe_ix ix_tup (pv 1) pe_int (fun _ _ => rfl)) pa_nil)))))
      (pss_cons (ps_set (i := 3) sc_own_orders_of.nd rfl (.inr rfl) (pe_cl c_turned_back hr (by first | decide | omega) (by rfl) (pa_cons (pe_ix ix_list (pv 2) pe_int (fun _ _ => rfl)) pa_nil)))
      (pss_one (ps_ret (pe_callB (cr_sortN hr) (by rfl) T.z_sorted (by decide +kernel) (pa_cons (pe_lc (own := [("order", 4)]) (g := (gName 4)) (by rfl) sc_own_orders_of.nd (pi_list (pv 2)) (blkOk_by (own := [("order", 4)]) (N := ["signature", "model", "orders", "back", "order"]) (sc := (defScope s_own_orders_of)) (by decide +kernel)) (fun _ _ _ _ _ => (pg_name (i := 4) sc_own_orders_of.nd rfl (.inl rfl))) (fun _ _ _ _ _ => pts_nil) (fun _ _ _ _ _ => (pe_cl c_composed hr (by first | decide | omega) (by rfl) (pa_cons (pv 4) (pa_cons (pv 3) pa_nil))))) pa_nil)))))), ?_⟩
    replace sok : SigOk sg := sok
    replace mok : MdlOk sg n ts := mok
    have n1 : 1 ≤ n := mok.n1
    have n6 : n ≤ 6 := mok.n6
    have ok := ptl_ok sok mok
    have few := ord_few n1 ok n6
    obtain ⟨ma, tv, rfl, sM, hT⟩ := id hM
    refine q_asgP (P := fun v H' => RowsL K H' v (orders n (ptl sg ts))) (ep_call (sg, n, ts) (ea_cons (ev_var rfl) (ea_cons (ev_op (ev_var rfl) ev_c (rv_ixT (K := K) sM (atI_vi (k := 0) rfl))) (ea_cons (ev_op (ev_var rfl) ev_c (rv_ixT (K := K) sM (atI_vi (k := 1) rfl))) ea_nil))) fun H1 e1 => ⟨⟨_, _, rfl, hG.ex e1, Tabs.ex e1 hT⟩, sok, mok⟩) fun v H1 e1 hv => ?_
    obtain ⟨a, us, rfl, ha, pus⟩ := id hv
    have lus := paired_len pus
    have f0 : ∃ b0, (orders n (ptl sg ts))[0]? = some b0 ∧ first (orders n (ptl sg ts)) = b0 := by
      cases hbs : orders n (ptl sg ts) with
      | nil => exact absurd hbs (orders_ne n1 ok)
      | cons b r => exact ⟨b, rfl, rfl⟩
    obtain ⟨b0, hb0, fb⟩ := f0
    have ob0 : M20.Ord n b0 := ((orders_mem n1 ok).mp (List.mem_iff_getElem?.mpr ⟨0, hb0⟩)).1
    obtain ⟨x0, hx0, hb⟩ := paired_get pus hb0
    refine q_asgP (P := fun v H' => Nats K H' v (bk b0)) (ep_call (n, b0) (ea_cons (ev_op (ev_var rfl) ev_c (rv_ixL (K := K) (sq_of ha) (atI_vi (k := 0) hx0))) ea_nil) fun H2 e2 => ⟨⟨_, rfl, hb.ex e2⟩, ob0, n6⟩) fun v H2 e2 hv2 => ?_
    have e02 := e1.trans e2
    refine s_retLP (elp_sortN (K := K) (R := fun v o H => FNats H v o) (fun _ _ _ z => z.nats) (fun _ _ _ _ e z => z.ex e) (os := own n (ptl sg ts)) ((elp_lcL (K := K) (ev_var rfl) (ex_l e2 (sq_of ha)) (by omega) (fun _ => true) (fun v i H' => FNats H' v (cmp ((orders n (ptl sg ts)).getD i []) (bk b0))) (stb_fnats _) (fun _ => rfl) (fun i x H3 e3 hx => ⟨et_yes, fun _ => ?_⟩)).imp fun ws H3 _ hw => ?_) (fun o ho => ord_ne n1 ((own_mem n1 ok).mp ho).1)) fun p ws H3 np e3 hp hw => q _ H3 (e02.trans e3) ⟨p, ws, rfl, fresh_back e02 np, hp, hw⟩
    · obtain ⟨o, ho, hx2⟩ := paired_at pus hx
      have eo : (orders n (ptl sg ts)).getD i [] = o := by rw [List.getD_eq_getElem?_getD, ho]; rfl
      rw [eo]
      have oo : M20.Ord n o := ((orders_mem n1 ok).mp (List.mem_iff_getElem?.mpr ⟨i, ho⟩)).1
      exact ep_call (n, o, bk b0) (ea_cons (ev_var rfl) (ea_cons (ev_var rfl) ea_nil)) fun H4 e4 => ⟨⟨_, _, rfl, hx2.ex (e2.trans (e3.trans e4)), hv2.ex (e3.trans e4)⟩, oo, bk_ord ob0, n6⟩
    · rw [range_all] at hw
      have := paired_map (S := fun v o => FNats H3 v o) (f := fun i => cmp ((orders n (ptl sg ts)).getD i []) (bk b0)) (fun _ _ z => z) hw
      rw [lus, get_map _ [] fun a => cmp a (bk b0), ← fb] at this
      exact this
theorem c_own_orders (T : Txt mg) (D : Df K mg "own_orders" s_own_orders ["signature", "model"]) (c_need_model : Cl P w K mg base 7 "need_model" (sp_need_model K)) (c_own_orders_of : Cl P w K mg base 6 "own_orders_of" (sp_own_orders_of K)) : Cl P w K mg base 8 "own_orders" (sp_own_orders_of K) := by
  refine cl_of (k := 7) D sc_own_orders (fun vs H Q E h => ?_) (fun f cdv A outer s H vs Q E hr h => ?_)
  · obtain ⟨p, ⟨⟨u, v, rfl, _⟩, _⟩, _⟩ := h
    rfl
  · obtain ⟨⟨sg, n, ts⟩, ⟨⟨u, v, rfl, hG, hM⟩, sok, mok⟩, q⟩ := h
    refine ⟨_, (pss_cons (ps_expr (pe_cl c_need_model hr (by first | decide | omega) (by rfl) (pa_cons (pv 0) (pa_cons (pv 1) pa_nil))))
      (pss_one (ps_ret (pe_cl c_own_orders_of hr (by first | decide | omega) (by rfl) (pa_cons (pv 0) (pa_cons (pv 1) pa_nil)))))), ?_⟩
    refine q_drop (ev_callV (v := .non) (sg, n, ts) (ea_cons (ev_var rfl) (ea_cons (ev_var rfl) ea_nil)) (fun H1 e1 => ⟨⟨_, _, rfl, hG.ex e1, hM.ex e1⟩, sok, mok⟩) (fun _ _ p => p)) fun H1 e1 => ?_
    exact s_retP (P := fun v H' => OwnV K H H' v (srtO (own n (ptl sg ts)))) (ep_callG (sg, n, ts) (ea_cons (ev_var rfl) (ea_cons (ev_var rfl) ea_nil)) (fun H2 e2 => ⟨⟨_, _, rfl, hG.ex (e1.trans e2), hM.ex (e1.trans e2)⟩, sok, mok⟩) fun H2 v H3 e2 e3 ⟨a, vs, e, na, s, p⟩ => ⟨a, vs, e, fresh_back (e1.trans e2) na, s, p⟩) fun v H2 e2 hv => q _ H2 (e1.trans e2) hv
def sp_renamings (K : PySem.W.Frag) : Sp := spX (fun (p : List (Str × Nat) × Nat × List (List Nat)) vs H => (∃ u v, vs = [u, v] ∧ Sig K H u p.1 ∧ Mdl K H v p.2.1 p.2.2) ∧ SigOk p.1 ∧ MdlOk p.1 p.2.1 p.2.2)
  (fun p v _ => v = vi (fact p.2.1 / (orders p.2.1 (ptl p.1 p.2.2)).length))
theorem c_renamings (T : Txt mg) (D : Df K mg "renamings" s_renamings ["signature", "model"]) (c_need_model : Cl P w K mg base 7 "need_model" (sp_need_model K)) (c_renamings_many : Cl P w K mg base 6 "renamings_many" (sp_renamings_many K)) : Cl P w K mg base 8 "renamings" (sp_renamings K) := by
  refine cl_of (k := 7) D sc_renamings (fun vs H Q E h => ?_) (fun f cdv A outer s H vs Q E hr h => ?_)
  · obtain ⟨p, ⟨⟨u, v, rfl, _⟩, _⟩, _⟩ := h
    rfl
  · obtain ⟨⟨sg, n, ts⟩, ⟨⟨u, v, rfl, hG, hM⟩, sok, mok⟩, q⟩ := h
    refine ⟨_, (pss_cons (ps_expr (pe_cl c_need_model hr (by first | decide | omega) (by rfl) (pa_cons (pv 0) (pa_cons (pv 1) pa_nil))))
      (pss_one (ps_ret (pe_cl c_renamings_many hr (by first | decide | omega) (by rfl) (pa_cons (pv 0) (pa_cons (pe_ix ix_tup (pv 1) pe_int (fun _ _ => rfl)) (pa_cons (pe_ix ix_tup (pv 1) pe_int (fun _ _ => rfl)) pa_nil))))))), ?_⟩
    obtain ⟨ma, tv, rfl, sM, hT⟩ := id hM
    refine q_drop (ev_callV (v := .non) (sg, n, ts) (ea_cons (ev_var rfl) (ea_cons (ev_var rfl) ea_nil)) (fun H1 e1 => ⟨⟨_, _, rfl, hG.ex e1, hM.ex e1⟩, sok, mok⟩) (fun _ _ p => p)) fun H1 e1 => ?_
    exact s_retP (ep_call (sg, n, ts) (ea_cons (ev_var rfl) (ea_cons (ev_op (ev_var rfl) ev_c (rv_ixT (K := K) (ex_t e1 sM) (atI_vi (k := 0) rfl))) (ea_cons (ev_op (ev_var rfl) ev_c (rv_ixT (K := K) (ex_t e1 sM) (atI_vi (k := 1) rfl))) ea_nil))) fun H2 e2 => ⟨⟨_, _, rfl, hG.ex (e1.trans e2), Tabs.ex (e1.trans e2) hT⟩, sok, mok⟩) fun v H2 e2 hv => q _ H2 (e1.trans e2) hv
/-! ### orbits -/
/-- a new list of new lists of numbers -/
def LotsV (K : PySem.W.Frag) (G H : Hp) (v : V) (ls : List (List Nat)) : Prop := ∃ m vs, v = .ref m ∧ G m = none ∧ H m = some (.lst vs) ∧ Paired (fun v ns => ∃ a, v = .ref a ∧ a ≠ m ∧ G a = none ∧ H a = some (.lst (ns.map vi))) vs ls
def sp_orbits (K : PySem.W.Frag) : Sp := spG (fun (p : List (Str × Nat) × Nat × List (List Nat)) vs H => (∃ u v, vs = [u, v] ∧ Sig K H u p.1 ∧ Mdl K H v p.2.1 p.2.2) ∧ SigOk p.1 ∧ MdlOk p.1 p.2.1 p.2.2)
  (fun p G v H => LotsV K G H v (lots p.2.1 (srtO (own p.2.1 (ptl p.1 p.2.2)))))
theorem orb_ne {n : Nat} (h1 : 0 < n) {l : List PT} (ok : TabsOk n l) {os : List (List Nat)} (hos : ∀ a, a ∈ os ↔ Own n l a) {k : Nat} (hk : k < n) : orb n os k ≠ [] := List.ne_nil_of_mem ((orb_mem h1 ok hos).mpr ⟨hk, rel_refl ok hk⟩)
theorem c_orbits (T : Txt mg) (D : Df K mg "orbits" s_orbits ["signature", "model"]) (c_need_model : Cl P w K mg base 7 "need_model" (sp_need_model K)) (c_own_orders_of : Cl P w K mg base 6 "own_orders_of" (sp_own_orders_of K)) : Cl P w K mg base 8 "orbits" (sp_orbits K) := by
  refine cl_of (k := 7) D sc_orbits (fun vs H Q E h => ?_) (fun f cdv A outer s H vs Q E hr h => ?_)
  · obtain ⟨p, ⟨⟨u, v, rfl, _⟩, _⟩, _⟩ := h
    rfl
  · obtain ⟨⟨sg, n, ts⟩, ⟨⟨u, v, rfl, hG, hM⟩, sok, mok⟩, q⟩ := h
    refine ⟨_, (pss_cons (ps_expr (pe_cl c_need_model hr (by first | decide | omega) (by rfl) (pa_cons (pv 0) (pa_cons (pv 1) pa_nil))))
      (pss_cons (ps_set (i := 2) sc_orbits.nd rfl (.inl rfl) (pe_cl c_own_orders_of hr (by first | decide | omega) (by rfl) (pa_cons (pv 0) (pa_cons (pv 1) pa_nil))))
      (pss_cons (ps_set (i := 3) sc_orbits.nd rfl (.inl rfl) (pe_lst pa_nil))
      (pss_cons (ps_for PassesOwn.never (by rfl) (pi_range1 (by rfl) T.z_range (pa_cons (pe_ix ix_tup (pv 1) pe_int (fun _ _ => rfl)) pa_nil)) (pg_name (i := 4) sc_orbits.nd rfl (.inr rfl))
        (pss_cons (ps_set (i := 5) sc_orbits.nd rfl (.inl rfl) (pe_callB (cr_sortedSet rfl) (by rfl) T.z_sorted (by decide +kernel) (pa_cons (pe_callTy (cr_setI rfl) (by rfl) T.z_set (by decide +kernel) (pa_cons (pe_lc (own := [("order", 6)]) (g := (gName 6)) (by rfl) sc_orbits.nd (pi_list (pv 2)) (blkOk_by (own := [("order", 6)]) (N := ["signature", "model", "orders", "told", "number", "orbit", "order"]) (sc := (defScope s_orbits)) (by decide +kernel)) (fun _ _ _ _ _ => (pg_name (i := 6) sc_orbits.nd rfl (.inl rfl))) (fun _ _ _ _ _ => pts_nil) (fun _ _ _ _ _ => (pe_ix (ix_tupK K) (pv 6) (pv 4) (fun _ _ => rfl)))) pa_nil)) pa_nil)))
        (pss_one (ps_if (pt_cmpR op_eq (pe_ix ix_list (pv 5) pe_int (fun _ _ => rfl)) (pv 4) (nomark _))
          (pss_one (ps_expr (pe_bm PySem.F.plainAttrs_list PySem.F.slot_list_append PySem.F.type_list_append mt_append (pv 3) (pa_cons (pv 5) pa_nil))))
          pss_nil))))
      (pss_one (ps_ret (pv 3))))))), ?_⟩
    replace sok : SigOk sg := sok
    replace mok : MdlOk sg n ts := mok
    have n1 : 1 ≤ n := mok.n1
    have n6 : n ≤ 6 := mok.n6
    have ok := ptl_ok sok mok
    obtain ⟨ma, tv, rfl, sM, hT⟩ := id hM
    refine q_drop (ev_callV (v := .non) (sg, n, ts) (ea_cons (ev_var rfl) (ea_cons (ev_var rfl) ea_nil)) (fun H1 e1 => ⟨⟨_, _, rfl, hG.ex e1, hM.ex e1⟩, sok, mok⟩) (fun _ _ p => p)) fun H1 e1 => ?_
    refine q_asgP (P := fun v H' => RowsL K H' v (srtO (own n (ptl sg ts)))) (ep_callG (sg, n, ts) (ea_cons (ev_var rfl) (ea_cons (ev_var rfl) ea_nil)) (fun H2 e2 => ⟨⟨_, _, rfl, hG.ex (e1.trans e2), hM.ex (e1.trans e2)⟩, sok, mok⟩) fun H2 v H3 e2 e3 h => h.rows) fun v H2 e2 hv => ?_
    have hos : ∀ a, a ∈ srtO (own n (ptl sg ts)) ↔ Own n (ptl sg ts) a := fun a => srt_mem.trans (own_mem n1 ok)
    have few : (srtO (own n (ptl sg ts))).length ≤ 720 := by rw [srt_len, own_len]; exact ord_few n1 ok n6
    generalize hosd : srtO (own n (ptl sg ts)) = os at *
    obtain ⟨a, us, rfl, ha, pus⟩ := id hv
    have lus := paired_len pus
    refine q_asgL (el_lst ea_nil (Nat.zero_le _)) fun m H3 nm e3 hm => ?_
    have e03 := (e1.trans e2).trans e3
    have nmH : H m = none := fresh_back (e1.trans e2) nm
    refine q_forR1 (n := (n : Int)) (ea_cons (ev_op (ev_var rfl) ev_c (rv_ixT (K := K) (ex_t e03 sM) (atI_vi (k := 0) rfl))) ea_nil) ⟨by omega, by omega⟩ (fun i σ H' => Ex H2 H' ∧ ∃ vs y4 y5, H' m = some (.lst vs) ∧ Paired (fun v ns => ∃ a, v = .ref a ∧ a ≠ m ∧ H a = none ∧ H' a = some (.lst (ns.map vi))) vs (((List.range i).filter fun k => decide ((orb n os k).headD 0 = k)).map (orb n os)) ∧ σ = [some u, some (.ref ma), some (.ref a), some (.ref m), y4, y5, none])
      (fun H4 e4 => ⟨e3.trans e4, [], none, none, e4 _ _ hm, .nil, rfl⟩) (fun i σ H4 hi ⟨e4, vs, y4, y5, hvs, pvs, hσ⟩ => ?_) (fun σ H4 ⟨e4, vs, y4, y5, hvs, pvs, hσ⟩ => ?_)
    · subst hσ
      have hi' : i < n := by omega
      have low : ∀ o ∈ os, M20.Ord n o := fun o ho => ((hos o).mp ho).1
      refine q_asgL (el_sortSet (K := K) (w := w) (ns := os.map fun o => g o i) (ms := orb n os i) ((fun H5 e5 Q q => ?_ : EvL _ _ H4 ((os.map fun o => g o i).map vi))) (by rw [List.length_map]; omega) 6 (by decide) (fun k hk => ?_) (orb_up n os i) (fun k => ?_)) fun p H5 np e5 hp => ?_
      · have := el_lcL (K := K) (te := tOp (rIxT K) (tVar 6) (tVar 4)) (t := tYes) (j := 6) (vs := [6]) (σ := [some u, some (.ref ma), some (.ref a), some (.ref m), some (vi i), y5, none]) (H := H4) (tl := tVar 2) (fun _ => true) (fun k => vi (g (os.getD k []) i)) (ev_var rfl) (ex_l e4 (sq_of ha)) (by omega) (fun _ => rfl) (fun _ _ _ _ _ => et_yes) fun k x H6 e6 hx _ => by
          obtain ⟨o, ho, hx2⟩ := paired_at pus hx
          obtain ⟨xa, rfl, sx⟩ := hx2
          have eo : os.getD k [] = o := by rw [List.getD_eq_getElem?_getD, ho]; rfl
          rw [eo]
          have oo := low o (List.mem_iff_getElem?.mpr ⟨k, ho⟩)
          exact ev_op (ev_var rfl) (ev_var rfl) (rv_ixT (K := K) (ex_t (e4.trans e6) sx) (atI_vi (vi_get (by rw [oo.len]; exact hi'))))
        rw [given_all, lus, get_map os [] fun o => vi (g o i)] at this
        rw [List.map_map] at q
        exact this H5 e5 Q q
      · obtain ⟨o, ho, rfl⟩ := List.mem_map.mp hk
        have := (low o ho).low i hi'
        omega
      · unfold orb
        rw [List.mem_filter, List.mem_range, List.any_eq_true, List.mem_map]
        constructor
        · rintro ⟨_, o, ho, e⟩
          exact ⟨o, ho, of_decide_eq_true e⟩
        · rintro ⟨o, ho, rfl⟩
          exact ⟨(low o ho).low i hi', o, ho, decide_eq_true rfl⟩
      · have hvs5 := e5 _ _ hvs
        have pm : p ≠ m := fun z => by rw [z, hvs] at np; cases np
        have npH : H p = none := fresh_back ((e1.trans e2).trans e4) np
        have one := orb_ne n1 ok hos hi'
        have at0 : ((orb n os i).map vi)[0]? = some (vi ((orb n os i).headD 0)) := by
          cases ho : orb n os i with
          | nil => exact absurd ho one
          | cons x r => rfl
        have old : ∀ H6, Ex H5 H6 → Paired (fun v ns => ∃ a, v = .ref a ∧ a ≠ m ∧ H a = none ∧ H6 a = some (.lst (ns.map vi))) vs (((List.range i).filter fun k => decide ((orb n os k).headD 0 = k)).map (orb n os)) := fun H6 e6 => paired_imp (fun _ _ ⟨a, x1, x2, x3, x4⟩ => ⟨a, x1, x2, x3, (e5.trans e6) _ _ x4⟩) pvs
        refine s_when (b := decide ((orb n os i).headD 0 = i)) (et_is (et_test (ev_op (ev_op (ev_var rfl) ev_c (rv_ixL (K := K) (sq_of hp) (atI_vi (k := 0) at0))) (ev_var rfl) (rv_eq rfl))) (decide_eq_decide.mpr ⟨fun z => Int.ofNat.inj (V.int.inj z), fun z => by rw [z]⟩)) (fun hb H6 e6 => ?_) (fun hb H6 e6 => ?_)
        · have hm6 := e6 _ _ hvs5
          refine s_app hm6 (ev_var rfl) (ev_var rfl) (by
            rw [paired_len pvs, List.length_map]
            have := filt_len i fun k => decide ((orb n os k).headD 0 = k)
            omega) fun H7 e7 => ⟨(e4.trans (e5.trans (e6.trans e7))).mut (by exact nm), vs ++ [.ref p], _, _, upd_same, ?_, rfl⟩
          rw [filt_step, if_pos hb, List.map_append]
          have up : ∀ {v : V} {ns : List Nat} {H' : Hp}, (∃ a, v = .ref a ∧ a ≠ m ∧ H a = none ∧ H' a = some (.lst (ns.map vi))) → ∃ a, v = .ref a ∧ a ≠ m ∧ H a = none ∧ (upd H' m (.lst (vs ++ [.ref p]))) a = some (.lst (ns.map vi)) := fun ⟨a, x1, x2, x3, x4⟩ => ⟨a, x1, x2, x3, by rw [upd_ne x2]; exact x4⟩
          have old7 := paired_imp (fun _ _ z => up z) (old H7 (e6.trans e7))
          exact paired_snoc' (R := fun (v : V) (ns : List Nat) => ∃ a, v = .ref a ∧ a ≠ m ∧ H a = none ∧ (upd H7 m (.lst (vs ++ [.ref p]))) a = some (.lst (ns.map vi))) (up ⟨p, rfl, pm, npH, (e6.trans e7) _ _ hp⟩) old7
        · refine ⟨e4.trans (e5.trans e6), vs, _, _, e6 _ _ hvs5, ?_, rfl⟩
          rw [filt_step, if_neg (by rw [hb]; decide), List.append_nil]
          exact old H6 e6
    · subst hσ
      rw [Int.toNat_natCast] at pvs
      refine s_ret (ev_var rfl) fun H5 e5 => q _ H5 ((e1.trans e2).trans (e4.trans e5)) ?_
      rw [← hosd] at pvs
      exact ⟨m, vs, rfl, nmH, e5 _ _ hvs, paired_imp (fun _ _ ⟨a, x1, x2, x3, x4⟩ => ⟨a, x1, x2, x3, e5 _ _ x4⟩) pvs⟩
end
end K24
end
section
namespace K24
open PySem PySem.Spec PyProof.Rows L2 Evl RZ Dw M20 M25
section
variable {P : Program} {w : World} {K : PySem.W.Frag} {mg : Str → Option Value} {base : Heap}
/-! ### all orders, the law's own way -/
end
end K24
end
section
namespace K24
open PySem PySem.Spec PyProof.Rows L2 Evl RZ Dw M20 M25 CL
section
variable {P : Program} {w : World} {K : PySem.W.Frag} {mg : Str → Option Value} {base : Heap}
def MA (K : PySem.W.Frag) (H : Hp) (u v : V) (p : MArg) : Prop := Sig K H u p.1 ∧ Mdl K H v p.2.1 p.2.2
theorem MA.ex {H H' : Hp} {u v : V} {p : MArg} (e : Ex H H') (h : MA K H u v p) : MA K H' u v p := ⟨h.1.ex e, h.2.ex e⟩
theorem MA.et {H H' : Hp} {u v : V} {p : MArg} (e : ET K H H') (h : MA K H u v p) : MA K H' u v p := ⟨h.1.et e, h.2.et e⟩
def MOk (p : MArg) : Prop := SigOk p.1 ∧ MdlOk p.1 p.2.1 p.2.2
theorem sig_one {p : MArg} (ok : MOk p) {i j : Nat} {d e : Str × Nat} (hi : p.1[i]? = some d) (hj : p.1[j]? = some e) (h : d.1 = e.1) : i = j ∧ d = e := by
  obtain ⟨il, ed⟩ := List.getElem?_eq_some_iff.mp hi
  obtain ⟨jl, ee⟩ := List.getElem?_eq_some_iff.mp hj
  have : i = j := (List.getElem_inj (h₀ := by rw [List.length_map]; exact il) (h₁ := by rw [List.length_map]; exact jl) ok.1.nd).mp (by rw [List.getElem_map, List.getElem_map, ed, ee]; exact h)
  subst this
  exact ⟨rfl, by rw [← ed, ← ee]⟩
def tbOf : List (Str × Nat) → List (List Nat) → Str → List Nat
  | d :: sg, tb :: tbs, f => if d.1 = f then tb else tbOf sg tbs f
  | _, _, _ => []
theorem tbOf_at : ∀ {sg : List (Str × Nat)} {tbs : List (List Nat)} {f : Str} {i : Nat} (h1 : i < sg.length) (h2 : i < tbs.length), sg[i].1 = f → (∀ j (h : j < sg.length), j < i → sg[j].1 ≠ f) → tbOf sg tbs f = tbs[i]
  | d :: sg, tb :: tbs, f, 0, _, _, e, _ => by
    rw [tbOf, if_pos (show d.1 = f from e)]
    rfl
  | d :: sg, tb :: tbs, f, i + 1, h1, h2, e, no => by
    rw [tbOf, if_neg (show ¬ d.1 = f from no 0 (Nat.zero_lt_succ _) (Nat.zero_lt_succ _))]
    exact tbOf_at (sg := sg) (tbs := tbs) (i := i) (Nat.lt_of_succ_lt_succ h1) (Nat.lt_of_succ_lt_succ h2) e fun j h lt => no (j + 1) (Nat.succ_lt_succ h) (Nat.succ_lt_succ lt)
theorem tbOf_sig {p2 : MArg} {p : MArg} (ok : MOk p) (ok2 : MOk p2) (es : p2.1 = p.1) {i : Nat} {d : Str × Nat} (hi : p.1[i]? = some d) : ∃ h : i < p2.2.2.length, tbOf p.1 p2.2.2 d.1 = p2.2.2[i] ∧ Tab p2.2.1 d.2 p2.2.2[i] := by
  obtain ⟨il, ed⟩ := List.getElem?_eq_some_iff.mp hi
  have il2 : i < p2.2.2.length := by rw [ok2.2.len, es]; exact il
  have il3 : i < p2.1.length := by rw [es]; exact il
  refine ⟨il2, ?_, ?_⟩
  · refine tbOf_at il il2 (by rw [ed]) fun j h lt e => ?_
    have := (sig_one ok (List.getElem?_eq_getElem h) hi e).1
    omega
  · have := ok2.2.tab i il3 il2
    rw [show p2.1[i] = d from by rw [← ed]; simp only [es]] at this
    exact this
def sp_table_of (K : PySem.W.Frag) : Sp := spX (fun (p : List (Str × Nat) × Nat × List (List Nat) × Str × Nat) vs H => (∃ u v, vs = [u, v, .str p.2.2.2.1] ∧ Sig K H u p.1 ∧ Tabs K H v p.2.2.1) ∧ p.2.2.1.length = p.1.length ∧ (p.2.2.2.1, p.2.2.2.2) ∈ p.1) (fun p v H => Nats K H v (tbOf p.1 p.2.2.1 p.2.2.2.1))
theorem c_table_of (T : Txt mg) (D : Df K mg "table_of" s_table_of ["signature", "tables", "name"]) : Cl P w K mg base 1 "table_of" (sp_table_of K) := by
  refine cl_of (k := 0) D sc_table_of (fun vs H Q E h => ?_) (fun f cdv A outer s H vs Q E hr h => ?_)
  · obtain ⟨p, ⟨⟨u, v, rfl, _⟩, _⟩, _⟩ := h
    rfl
  · obtain ⟨⟨sg, n, tbs, f, k⟩, ⟨⟨u, v, rfl, hG, hT⟩, lM, mem⟩, q⟩ := h
    refine ⟨_, (pss_cons (ps_for PassesOwn.never (by rfl) (pi_zipA (by rfl) T.z_zip (pa_cons (pv 0) (pa_cons (pv 1) pa_nil))) (pg_tup (by rfl) (pgs_cons (pg_name (i := 3) sc_table_of.nd rfl (.inl rfl)) (pgs_cons (pg_name (i := 4) sc_table_of.nd rfl (.inl rfl)) pgs_nil)))
        (pss_one (ps_if (pt_cmpR op_eq (pe_ix ix_tup (pv 3) pe_int (fun _ _ => rfl)) (pv 2) (nomark _))
          (pss_one (ps_ret (pv 4)))
          pss_nil)))
      (pss_one (ps_ret pe_non))), ?_⟩
    replace lM : tbs.length = sg.length := lM
    replace mem : (f, k) ∈ sg := mem
    obtain ⟨a, us, rfl, hS, hP⟩ := id hG
    obtain ⟨b, tvs, rfl, hB, hR⟩ := id hT
    replace hP : Paired (Deed K H) us sg := hP
    replace hR : Paired (Nats K H) tvs tbs := hR
    have lS : us.length = sg.length := paired_len hP
    have lT : tvs.length = tbs.length := paired_len hR
    refine q_zipT (ea_cons (ev_var rfl) (ea_cons (ev_var rfl) ea_nil)) hS hB (by rw [lS, lT, lM]) (fun i σ H' => Ex H H' ∧ (∀ j (h : j < sg.length), j < i → sg[j].1 ≠ f) ∧ ∃ y3 y4, σ = [some (.ref a), some (.ref b), some (.str f), y3, y4])
      (fun H2 e2 => ⟨e2, fun j _ z => absurd z (Nat.not_lt_zero _), none, none, rfl⟩) (fun i σ H' _ ⟨e, _⟩ => ⟨ex_t e hS, ex_t e hB⟩) (fun i d tv p σ H2 hd ht hPv np => ?_) (fun σ H2 hPv => ?_)
    · obtain ⟨e2, no, y3, y4, hσ⟩ := hPv
      subst hσ
      have hi : i < sg.length := by rw [← lS]; exact (List.getElem?_eq_some_iff.mp hd).1
      have hi2 : i < tbs.length := by rw [lM]; exact hi
      obtain ⟨d', ed', c, hc, dc⟩ := paired_get hP (List.getElem?_eq_getElem hi)
      have : d' = d := Option.some.inj (ed'.symm.trans hd)
      subst this
      subst hc
      obtain ⟨t', et', nt⟩ := paired_get hR (List.getElem?_eq_getElem hi2)
      have : t' = tv := Option.some.inj (et'.symm.trans ht)
      subst this
      have e3 : Ex H2 (upd H2 p (.tup [.ref c, t'])) := Ex.new np
      have e03 : Ex H (upd H2 p (.tup [.ref c, t'])) := e2.trans e3
      refine ⟨p, _, rfl, st_of upd_same, rfl, _, _, rfl, _, _, rfl, rfl, ?_⟩
      show tIfS _ _ _ _ [some (.ref a), some (.ref b), some (.str f), some (.ref c), some t'] (upd H2 p (.tup [.ref c, t']))
      refine s_when (et_test (ev_op (ev_op (ev_var rfl) ev_c (rv_ixT (K := K) (ex_t e03 dc) (atI_vi (k := 0) rfl))) (ev_var rfl) (rv_eq rfl))) (fun hb H4 e4 => ?_) (fun hb H4 e4 => ?_)
      · have isF : sg[i].1 = f := V.str.inj (of_decide_eq_true hb)
        refine s_ret (ev_var rfl) fun H5 e5 => q _ H5 (e03.trans (e4.trans e5)) ?_
        show Nats K H5 t' (tbOf sg tbs f)
        rw [tbOf_at hi hi2 isF no]
        exact nt.ex (e03.trans (e4.trans e5))
      · have notF : sg[i].1 ≠ f := fun z => by
          rw [z] at hb
          exact absurd rfl (of_decide_eq_false hb)
        refine ⟨e03.trans e4, fun j h lt => ?_, _, _, rfl⟩
        by_cases e : j < i
        · exact no j h e
        · have : j = i := by omega
          subst this
          exact notF
    · obtain ⟨e2, no, y3, y4, hσ⟩ := hPv
      obtain ⟨i, hi⟩ := List.mem_iff_getElem?.mp mem
      have il : i < sg.length := (List.getElem?_eq_some_iff.mp hi).1
      rw [List.getElem?_eq_getElem il] at hi
      exact absurd (by rw [Option.some.inj hi]) (no i il (by rw [lS]; exact il))
def sp_need_two (K : PySem.W.Frag) : Sp := spX (fun (p : MArg × MArg) vs H => (∃ u v w, vs = [u, v, w] ∧ MA K H u v p.1 ∧ Mdl K H w p.2.2.1 p.2.2.2) ∧ MOk p.1 ∧ MOk p.2 ∧ p.2.1 = p.1.1) (fun _ v _ => v = .non)
theorem c_need_two_models (T : Txt mg) (D : Df K mg "need_two_models" s_need_two_models ["signature", "one", "other"]) (c_need_model : Cl P w K mg base 7 "need_model" (sp_need_model K)) : Cl P w K mg base 8 "need_two_models" (sp_need_two K) := by
  refine cl_of (k := 7) D sc_need_two_models (fun vs H Q E h => ?_) (fun f cdv A outer s H vs Q E hr h => ?_)
  · obtain ⟨p, ⟨⟨u, v, w, rfl, _⟩, _⟩, _⟩ := h
    rfl
  · obtain ⟨⟨p, p2⟩, ⟨⟨u, v, w, rfl, hm, hw⟩, ok, ok2, es⟩, q⟩ := h
    refine ⟨_, (pss_cons (ps_expr (pe_cl c_need_model hr (by first | decide | omega) (by rfl) (pa_cons (pv 0) (pa_cons (pv 1) pa_nil))))
      (pss_one (ps_expr (pe_cl c_need_model hr (by first | decide | omega) (by rfl) (pa_cons (pv 0) (pa_cons (pv 2) pa_nil)))))), ?_⟩
    replace hm : MA K H u v p := hm
    replace es : p2.1 = p.1 := es
    refine q_drop (v := .non) (ev_callV p (ea_cons (ev_var rfl) (ea_cons (ev_var rfl) ea_nil)) (fun H1 e1 => ⟨⟨_, _, rfl, hm.1.ex e1, hm.2.ex e1⟩, ok.1, ok.2⟩) (fun _ _ p => p)) fun H1 e1 => ?_
    exact s_drop (v := .non) (ev_callV p2 (ea_cons (ev_var rfl) (ea_cons (ev_var rfl) ea_nil)) (fun H2 e2 => ⟨⟨_, _, rfl, by rw [es]; exact hm.1.ex (e1.trans e2), hw.ex (e1.trans e2)⟩, ok2.1, ok2.2⟩) (fun _ _ p => p)) fun H2 e2 => q _ H2 (e1.trans e2) rfl
def sp_place_of_row (K : PySem.W.Frag) : Sp := spX (fun (p : Nat × List Nat) vs H => (∃ l, vs = [vi p.1, .ref l] ∧ H l = some (.lst (p.2.map vi))) ∧ p.1 ≤ 6 ∧ p.2.length ≤ 2 ∧ ∀ k ∈ p.2, k < p.1) (fun p v _ => v = vi (plc p.1 p.2))
theorem c_place_of_row (T : Txt mg) (D : Df K mg "place_of_row" s_place_of_row ["size", "row"]) : Cl P w K mg base 1 "place_of_row" (sp_place_of_row K) := by
  refine cl_of (k := 0) D sc_place_of_row (fun vs H Q E h => ?_) (fun f cdv A outer s H vs Q E hr h => ?_)
  · obtain ⟨p, ⟨⟨l, rfl, _⟩, _⟩, _⟩ := h
    rfl
  · obtain ⟨⟨n, ns⟩, ⟨⟨l, rfl, hl⟩, n6, l2, low⟩, q⟩ := h
    refine ⟨_, (pss_cons (ps_set (i := 2) sc_place_of_row.nd rfl (.inl rfl) pe_int)
      (pss_cons (ps_for PassesOwn.never (by rfl) (pi_list (pv 1)) (pg_name (i := 3) sc_place_of_row.nd rfl (.inl rfl))
        (pss_one (ps_set (i := 2) sc_place_of_row.nd rfl (.inl rfl) (pe_op op_add (pe_op op_mul (pv 2) (pv 0)) (pv 3)))))
      (pss_one (ps_ret (pv 2))))), ?_⟩
    replace hl : H l = some (.lst (ns.map vi)) := hl
    replace n6 : n ≤ 6 := n6
    replace l2 : ns.length ≤ 2 := l2
    replace low : ∀ k ∈ ns, k < n := low
    refine q_asg (v := vi 0) ev_c fun H1 e1 => ?_
    refine q_forL (K := K) (ev_var rfl) (sq_of (e1 _ _ hl)) (fun i σ H' => Ex H H' ∧ ∃ y : Option V, σ = [some (vi n), some (.ref l), some (vi (plc n (ns.take i))), y]) (fun H2 e2 => ⟨e1.trans e2, none, rfl⟩) (fun i σ H' _ ⟨e, _⟩ => sq_of (e _ _ hl)) (fun i x σ H2 hx hP => ?_) (fun σ H2 hP => ?_)
    · obtain ⟨e2, y, hσ⟩ := hP
      subst hσ
      rw [List.getElem?_map] at hx
      cases hk : ns[i]? with
      | none =>
        rw [hk] at hx
        cases hx
      | some k =>
        rw [hk] at hx
        cases Option.some.inj hx
        have small : plc n (ns.take i) ≤ 1000 := by
          have a := plc_low (n := n) (ns := ns.take i) (fun k h => low k (List.mem_of_mem_take h)) (by rw [List.length_take]; omega)
          have b : n ^ (ns.take i).length ≤ 6 ^ (ns.take i).length := Nat.pow_le_pow_left n6 _
          have c : 6 ^ (ns.take i).length ≤ 6 ^ 2 := Nat.pow_le_pow_right (by decide) (by rw [List.length_take]; omega)
          omega
        refine s_asg (v := vi (plc n (ns.take (i + 1)))) (ev_is (ev_addN (ev_mulN (ev_var rfl) (ev_var rfl) small (by omega)) (ev_var rfl)) (by rw [plc_take hk])) fun H3 e3 => ?_
        exact ⟨e2.trans e3, _, rfl⟩
    · obtain ⟨e2, y, hσ⟩ := hP
      subst hσ
      rw [List.length_map, List.take_length]
      exact s_ret (ev_var rfl) fun H3 e3 => q _ H3 (e2.trans e3) rfl
def sp_place_T (K : PySem.W.Frag) : Sp := spX (fun (p : Nat × List Nat) vs H => (∃ v, vs = [vi p.1, v] ∧ Nats K H v p.2) ∧ p.1 ≤ 6 ∧ p.2.length ≤ 2 ∧ ∀ k ∈ p.2, k < p.1) (fun p v _ => v = vi (plc p.1 p.2))
theorem c_place_of_rowT (T : Txt mg) (D : Df K mg "place_of_row" s_place_of_row ["size", "row"]) : Cl P w K mg base 1 "place_of_row" (sp_place_T K) := by
  refine cl_of (k := 0) D sc_place_of_row (fun vs H Q E h => ?_) (fun f cdv A outer s H vs Q E hr h => ?_)
  · obtain ⟨p, ⟨⟨l, rfl, _⟩, _⟩, _⟩ := h
    rfl
  · obtain ⟨⟨n, ns⟩, ⟨⟨v, rfl, ⟨l, rfl, hl⟩⟩, n6, l2, low⟩, q⟩ := h
    refine ⟨_, (pss_cons (ps_set (i := 2) sc_place_of_row.nd rfl (.inl rfl) pe_int)
      (pss_cons (ps_for PassesOwn.never (by rfl) (pi_tup (pv 1)) (pg_name (i := 3) sc_place_of_row.nd rfl (.inl rfl))
        (pss_one (ps_set (i := 2) sc_place_of_row.nd rfl (.inl rfl) (pe_op op_add (pe_op op_mul (pv 2) (pv 0)) (pv 3)))))
      (pss_one (ps_ret (pv 2))))), ?_⟩
    replace hl : SqT K H l (ns.map vi) := hl
    replace n6 : n ≤ 6 := n6
    replace l2 : ns.length ≤ 2 := l2
    replace low : ∀ k ∈ ns, k < n := low
    refine q_asg (v := vi 0) ev_c fun H1 e1 => ?_
    refine q_forT (K := K) (ev_var rfl) (ex_t e1 hl) (fun i σ H' => Ex H H' ∧ ∃ y : Option V, σ = [some (vi n), some (.ref l), some (vi (plc n (ns.take i))), y]) (fun H2 e2 => ⟨e1.trans e2, none, rfl⟩) (fun i σ H' _ ⟨e, _⟩ => ex_t e hl) (fun i x σ H2 hx hP => ?_) (fun σ H2 hP => ?_)
    · obtain ⟨e2, y, hσ⟩ := hP
      subst hσ
      rw [List.getElem?_map] at hx
      cases hk : ns[i]? with
      | none =>
        rw [hk] at hx
        cases hx
      | some k =>
        rw [hk] at hx
        cases Option.some.inj hx
        have small : plc n (ns.take i) ≤ 1000 := by
          have a := plc_low (n := n) (ns := ns.take i) (fun k h => low k (List.mem_of_mem_take h)) (by rw [List.length_take]; omega)
          have b := pow_small' (p := (ns.take i).length) n6 (by rw [List.length_take]; omega)
          omega
        refine s_asg (v := vi (plc n (ns.take (i + 1)))) (ev_is (ev_addN (ev_mulN (ev_var rfl) (ev_var rfl) small (by omega)) (ev_var rfl)) (by rw [plc_take hk])) fun H3 e3 => ?_
        exact ⟨e2.trans e3, _, rfl⟩
    · obtain ⟨e2, y, hσ⟩ := hP
      subst hσ
      rw [List.length_map, List.take_length]
      exact s_ret (ev_var rfl) fun H3 e3 => q _ H3 (e2.trans e3) rfl
end
end K24
end
section
namespace K24
open PySem PySem.Spec PyProof.Rows L2 Evl RZ Dw M20 M25 CL LK
/-- two models of one size, by names -/
def sysOf (p p2 : MArg) : Sys Str := ⟨p.1, p.2.1, tbOf p.1 p.2.2, tbOf p.1 p2.2.2⟩
structure Two (p p2 : MArg) : Prop where
  ok : MOk p
  ok2 : MOk p2
  es : p2.1 = p.1
  en : p2.2.1 = p.2.1
theorem Two.sys {p p2 : MArg} (t : Two p p2) : (sysOf p p2).Ok := by
  refine ⟨t.ok.2.n1, t.ok.1.pl, fun d hd => ?_, fun d hd => ?_⟩
  · obtain ⟨i, hi⟩ := List.mem_iff_getElem?.mp hd
    obtain ⟨h, e, tb⟩ := tbOf_sig t.ok t.ok rfl hi
    show Tab p.2.1 d.2 (tbOf p.1 p.2.2 d.1)
    rw [e]
    exact tb
  · obtain ⟨i, hi⟩ := List.mem_iff_getElem?.mp hd
    obtain ⟨h, e, tb⟩ := tbOf_sig t.ok t.ok2 t.es hi
    show Tab p.2.1 d.2 (tbOf p.1 p2.2.2 d.1)
    rw [e, ← t.en]
    exact tb
section
variable {K : PySem.W.Frag} {σ : L2.St} {H : Hp} {ta tb te : TE}
theorem ev_ixNP {t : List Nat} {k : Nat} (ha : EvP ta σ H (fun v H' => Nats K H' v t)) (hb : Ev tb σ H (vi k)) (lt : k < t.length) : Ev (tOp (rIxT K) ta tb) σ H (vi (g t k)) := fun H1 e Q q =>
  do_op (ha H1 e _ fun v H2 e2 hv => hb H2 (e.trans e2) _ fun H3 e3 => by
    obtain ⟨a, ev, sa⟩ := hv.ex e3
    subst ev
    exact ⟨a, t.map vi, (k : Int), vi (g t k), rfl, rfl, sa, atI_vi (vi_get lt), q H3 (e2.trans e3)⟩)
theorem el_getT {i j k : Nat} {row S : List Nat} {xa a : Addr} (hw : ∀ x, wipe ((wipe σ [j]).set j (some x)) [j] = wipe σ [j]) (hi : σ[i]? = some (some (.ref xa))) (hk : ∀ x, ((wipe σ [j]).set j (some x))[k]? = some (some (.ref a))) (hj : ∀ x, ((wipe σ [j]).set j (some x))[j]? = some (some x))
    (hxa : SqT K H xa (row.map vi)) (ha : SqT K H a (S.map vi)) (rl : ∀ x ∈ row, x < S.length) (l : row.length ≤ 1000) : EvL (tLc (iTup K (tVar i)) (gName j) tYes (tOp (rIxT K) (tVar k) (tVar j)) [j]) σ H ((row.map (M20.g S)).map vi) := by
  have zz := el_lcT (K := K) (tl := tVar i) (te := tOp (rIxT K) (tVar k) (tVar j)) (σ := σ) (j := j) (vs := [j]) (ev_var hi) hxa (fun q => vi (M20.g S (row.getD q 0))) (by rw [List.length_map]; omega) hw (fun q y H7 e7 hy => by
    rw [List.getElem?_map] at hy
    cases hq : row[q]? with
    | none => rw [hq] at hy; cases hy
    | some kk =>
      rw [hq] at hy
      cases Option.some.inj hy
      have lk := rl kk (List.mem_iff_getElem?.mpr ⟨q, hq⟩)
      rw [List.getD_eq_getElem?_getD, hq]
      exact ev_op (ev_var (hk _)) (ev_var (hj _)) (rv_ixT (K := K) (ex_t e7 ha) (atI_vi (k := kk) (by rw [List.getElem?_map, M20.g_eq lk]; rfl))))
  have e : (List.range (row.map vi).length).map (fun q => vi (M20.g S (row.getD q 0))) = (row.map (M20.g S)).map vi := by
    conv => rhs; rw [← range_getD 0 row]
    rw [List.length_map, List.map_map, List.map_map]
    rfl
  rw [e] at zz
  exact zz
theorem ev_lenN {a : Addr} {F : List Nat} (ha : Ev ta σ H (.ref a)) (h : SqT K H a (F.map vi)) : Ev (tCB (rLenS K) (tCons ta tNil)) σ H (vi F.length) := ev_is (ev_lenT ha h) (by rw [List.length_map])
theorem ev_ltM {a b : Nat} (ha : Ev ta σ H (vi a)) (hb : Ev tb σ H (vi b)) : Ev (tOp (rI0 fun i j => .bl (decide (i < j))) ta tb) σ H (.bl (decide (a < b))) := ev_is (ev_op ha hb rv_I0) (by congr 1; exact decide_eq_decide.mpr Int.ofNat_lt)
theorem vi_eq {a b : Nat} : decide (vi a = vi b) = decide (a = b) := decide_eq_decide.mpr ⟨fun z => Int.ofNat.inj (V.int.inj z), fun z => by rw [z]⟩
end
/-- what is asked of images and a cell -/
structure CArg where
  p : MArg
  p2 : MArg
  F : List Nat
  nm : Str
  k : Nat
  r : List Nat
def CArg.Ok (x : CArg) : Prop := Two x.p x.p2 ∧ Bg x.p.2.1 x.F.length x.F ∧ (x.nm, x.k) ∈ x.p.1 ∧ x.r ∈ rows x.F.length x.k
section
variable {P : Program} {w : World} {K : PySem.W.Frag} {mg : Str → Option Value} {base : Heap}
def sp_clashes (K : PySem.W.Frag) : Sp := spX (fun (x : CArg) vs H => (∃ u v w f y, vs = [u, v, w, f, .str x.nm, y] ∧ MA K H u v x.p ∧ Mdl K H w x.p2.2.1 x.p2.2.2 ∧ Nats K H f x.F ∧ Nats K H y x.r) ∧ x.Ok) (fun x v _ => v = .bl (bad (sysOf x.p x.p2) x.F (x.nm, x.r)))
theorem c_clashes (T : Txt mg) (D : Df K mg "clashes" s_clashes ["signature", "one", "other", "images", "name", "numbers"]) (c_table_of : Cl P w K mg base 1 "table_of" (sp_table_of K)) (c_place_of_row : Cl P w K mg base 1 "place_of_row" (sp_place_of_row K)) (c_place_of_rowT : Cl P w K mg base 1 "place_of_row" (sp_place_T K)) : Cl P w K mg base 2 "clashes" (sp_clashes K) := by
  refine cl_of (k := 1) D sc_clashes (fun vs H Q E h => ?_) (fun f cdv A outer s H vs Q E hr h => ?_)
  · obtain ⟨p, ⟨⟨u, v, w, f, y, rfl, _⟩, _⟩, _⟩ := h
    rfl
  · obtain ⟨⟨p, p2, F, nm, k, r⟩, ⟨⟨u, v, w, f, y, rfl, hm, hw, hf, hy⟩, tw, hF, mem, hr0⟩, q⟩ := h
    refine ⟨_, (pss_cons (ps_set (i := 6) sc_clashes.nd rfl (.inl rfl) (pe_ix ix_tup (pv 1) pe_int (fun _ _ => rfl)))
      (pss_cons (ps_set (i := 7) sc_clashes.nd rfl (.inl rfl) (pe_ix ix_tup (pe_cl c_table_of hr (by first | decide | omega) (by rfl) (pa_cons (pv 0) (pa_cons (pe_ix ix_tup (pv 1) pe_int (fun _ _ => rfl)) (pa_cons (pv 4) pa_nil)))) (pe_cl c_place_of_rowT hr (by first | decide | omega) (by rfl) (pa_cons (pv 6) (pa_cons (pv 5) pa_nil))) (fun _ _ => rfl)))
      (pss_cons (ps_setLc (i := 8) (own := [("number", 10)]) (g := (gName 10)) (by rfl) sc_clashes.nd rfl rfl (sw_true rfl rfl rfl (by decide +kernel)) (pi_tup (pv 5)) (blkOk_by (own := [("number", 10)]) (N := ["signature", "one", "other", "images", "name", "numbers", "size", "worth", "called", "there", "number"]) (sc := (defScope s_clashes)) (by decide +kernel)) (fun _ _ _ _ _ => (pg_name (i := 10) sc_clashes.nd rfl (.inl rfl))) (fun _ _ _ _ _ => pts_nil) (fun _ _ _ _ _ => (pe_ix (ix_tupK K) (pv 3) (pv 10) (fun _ _ => rfl))))
      (pss_cons (ps_set (i := 9) sc_clashes.nd rfl (.inl rfl) (pe_ix ix_tup (pe_cl c_table_of hr (by first | decide | omega) (by rfl) (pa_cons (pv 0) (pa_cons (pe_ix ix_tup (pv 2) pe_int (fun _ _ => rfl)) (pa_cons (pv 4) pa_nil)))) (pe_cl c_place_of_row hr (by first | decide | omega) (by rfl) (pa_cons (pv 6) (pa_cons (pv 8) pa_nil))) (fun _ _ => rfl)))
      (pss_cons (ps_if (pt_cmpR op_lt (pv 7) (pe_callB call_len_seq (by rfl) T.z_len PySem.boot_len (pa_cons (pv 3) pa_nil)) (nomark _))
        (pss_one (ps_ret (pe_cmpR op_ne (pe_ix ix_tup (pv 3) (pv 7) (fun _ _ => rfl)) (pv 9) (nomark _))))
        pss_nil)
      (pss_one (ps_ret (pe_cmpR op_in_seq (pv 9) (pv 3) (by rfl))))))))), ?_⟩
    replace hm : MA K H u v p := hm
    replace hw : Mdl K H w p2.2.1 p2.2.2 := hw
    replace hf : Nats K H f F := hf
    replace hy : Nats K H y r := hy
    replace tw : Two p p2 := tw
    replace hF : Bg p.2.1 F.length F := hF
    replace mem : (nm, k) ∈ p.1 := mem
    replace hr0 : r ∈ rows F.length k := hr0
    obtain ⟨va, vt, rfl, hva, hvt⟩ := id hm.2
    obtain ⟨wa, wt, rfl, hwa, hwt⟩ := id hw
    obtain ⟨fa, rfl, hfa⟩ := id hf
    obtain ⟨ya, rfl, hya⟩ := id hy
    have n1 := tw.ok.2.n1
    have n6 := tw.ok.2.n6
    have k2 : k ≤ 2 := tw.ok.1.pl _ mem
    obtain ⟨lr, rl⟩ := rows_of hr0
    have leF := hF.le
    have sok := tw.sys
    have tba := sok.a _ mem
    have tbb := sok.b _ mem
    replace tba : Tab p.2.1 k (tbOf p.1 p.2.2 nm) := tba
    replace tbb : Tab p.2.1 k (tbOf p.1 p2.2.2 nm) := tbb
    have rn : ∀ x ∈ r, x < p.2.1 := fun x hx => Nat.lt_of_lt_of_le (rl x hx) leF
    have rF : ∀ x ∈ r.map (g F), x < p.2.1 := fun x hx => by
      obtain ⟨z, hz, rfl⟩ := List.mem_map.mp hx
      exact hF.low _ (M25.g_mem (rl z hz))
    have l1 : plc p.2.1 r < (tbOf p.1 p.2.2 nm).length := by
      rw [tba.len, ← lr]
      exact plc_low rn (by omega)
    have l2 : plc p.2.1 (r.map (g F)) < (tbOf p.1 p2.2.2 nm).length := by
      have := plc_low rF (by rw [List.length_map]; omega)
      rw [List.length_map, lr] at this
      rw [tbb.len]
      exact this
    refine q_asg (v := vi p.2.1) (ev_op (ev_var rfl) ev_c (rv_ixT (K := K) hva (atI_vi (k := 0) rfl))) fun H1 e1 => ?_
    refine q_asg (v := vi (g (tbOf p.1 p.2.2 nm) (plc p.2.1 r))) (ev_ixNP (K := K) (ep_call (p.1, p.2.1, p.2.2, nm, k) (ea_cons (ev_var rfl) (ea_cons (ev_op (ev_var rfl) ev_c (rv_ixT (K := K) (ex_t e1 hva) (atI_vi (k := 1) rfl))) (ea_cons (ev_var rfl) ea_nil))) fun H2 e2 => ⟨⟨_, _, rfl, hm.1.ex (e1.trans e2), hvt.ex (e1.trans e2)⟩, tw.ok.2.len, mem⟩) (ev_callV (p.2.1, r) (ea_cons (ev_var rfl) (ea_cons (ev_var rfl) ea_nil)) (fun H2 e2 => ⟨⟨_, rfl, hy.ex (e1.trans e2)⟩, n6, by show r.length ≤ 2; omega, rn⟩) (fun _ _ z => z)) l1) fun H2 e2 => ?_
    have e02 := e1.trans e2
    refine q_asgL (el_getT (K := K) (row := r) (S := F) (fun _ => rfl) rfl (fun _ => rfl) (fun _ => rfl) (ex_t e02 hya) (ex_t e02 hfa) rl (by omega)) fun l H3 nl e3 hl => ?_
    have e03 := e02.trans e3
    refine q_asg (v := vi (g (tbOf p.1 p2.2.2 nm) (plc p.2.1 (r.map (g F))))) (ev_ixNP (K := K) (ep_call (p.1, p.2.1, p2.2.2, nm, k) (ea_cons (ev_var rfl) (ea_cons (ev_op (ev_var rfl) ev_c (rv_ixT (K := K) (ex_t e03 hwa) (atI_vi (k := 1) rfl))) (ea_cons (ev_var rfl) ea_nil))) fun H4 e4 => ⟨⟨_, _, rfl, hm.1.ex (e03.trans e4), hwt.ex (e03.trans e4)⟩, by show p2.2.2.length = p.1.length; rw [tw.ok2.2.len, tw.es], mem⟩) (ev_callV (p.2.1, r.map (g F)) (ea_cons (ev_var rfl) (ea_cons (ev_var rfl) ea_nil)) (fun H4 e4 => ⟨⟨_, rfl, e4 _ _ hl⟩, n6, by show (r.map (g F)).length ≤ 2; rw [List.length_map]; omega, rF⟩) (fun _ _ z => z)) l2) fun H4 e4 => ?_
    have e04 := e03.trans e4
    refine q_when (b := decide (g (tbOf p.1 p.2.2 nm) (plc p.2.1 r) < F.length)) (et_test (ev_ltM (ev_var rfl) (ev_lenN (K := K) (ev_var rfl) (ex_t e04 hfa)))) (fun hb H5 e5 => ?_) (fun hb H5 e5 => ?_)
    · have lt := of_decide_eq_true hb
      refine s_ret (ev_op (ev_ixN (K := K) (ev_var rfl) (ev_var rfl) (ex_t (e04.trans e5) hfa) lt) (ev_var rfl) (rv_ne rfl)) fun H6 e6 => q _ H6 ((e04.trans e5).trans e6) ?_
      show V.bl (!decide (vi _ = vi _)) = V.bl (clsh p.2.1 (tbOf p.1 p.2.2 nm) (tbOf p.1 p2.2.2 nm) F r)
      unfold clsh
      rw [if_pos lt, vi_eq]
    · have lt := of_decide_eq_false hb
      refine s_ret (ev_op (ev_var rfl) (ev_var rfl) (rv_isT (K := K) (ex_t (e04.trans e5) hfa) rfl (flat_vi F))) fun H6 e6 => q _ H6 ((e04.trans e5).trans e6) ?_
      rw [inV_vi]
      show V.bl _ = V.bl (clsh p.2.1 (tbOf p.1 p.2.2 nm) (tbOf p.1 p2.2.2 nm) F r)
      unfold clsh
      rw [if_neg lt]
end
end K24
end
section
namespace K24
open PySem PySem.Spec PyProof.Rows L2 Evl RZ Dw M20 M25 CL LK
/-! ### trees at their places -/
/-- a tree, and the lists in it -/
inductive TrV (K : PySem.W.Frag) (H : Hp) : List Addr → V → PT Str → Prop where
  | clash {p : Addr} {y : V} {nm : Str} {r : List Nat} : SqT K H p [.str "clash", .str nm, y] → Nats K H y r → TrV K H [] (.ref p) (.clash nm r)
  | case {p a : Addr} {vs : List V} {ks : List (PT Str)} {AS : List (List Addr)} : SqT K H p [.str "case", .ref a] → H a = some (.lst vs) → AS.length = ks.length → vs.length = ks.length → (∀ (i : Nat) (A : List Addr) (v : V) (t : PT Str), AS[i]? = some A → vs[i]? = some v → ks[i]? = some t → TrV K H A v t) → TrV K H (a :: AS.flatten) (.ref p) (.case ks)
/-- trees in a row -/
structure Fo (K : PySem.W.Frag) (H : Hp) (AS : List (List Addr)) (vs : List V) (ks : List (PT Str)) : Prop where
  l1 : AS.length = ks.length
  l2 : vs.length = ks.length
  each : ∀ (i : Nat) (A : List Addr) (v : V) (t : PT Str), AS[i]? = some A → vs[i]? = some v → ks[i]? = some t → TrV K H A v t
section
variable {K : PySem.W.Frag}
theorem TrV.keep {H H' : Hp} {A : List Addr} {v : V} {t : PT Str} (h : TrV K H A v t) (e : ET K H H') : (∀ b ∈ A, ∀ xs, H b = some (.lst xs) → H' b = some (.lst xs)) → TrV K H' A v t := by
  induction h with
  | clash s n => exact fun _ => .clash (e _ _ s) (n.et e)
  | @case p a vs ks AS s ha l1 l2 _ ih =>
    intro k
    refine .case (e _ _ s) (k a (List.mem_cons_self ..) _ ha) l1 l2 fun i A v t h1 h2 h3 => ih i A v t h1 h2 h3 fun b hb => k b (List.mem_cons_of_mem _ (List.mem_flatten.mpr ⟨A, List.mem_iff_getElem?.mpr ⟨i, h1⟩, hb⟩))
theorem TrV.ex {H H' : Hp} {A : List Addr} {v : V} {t : PT Str} (e : Ex H H') (h : TrV K H A v t) : TrV K H' A v t := h.keep (Dw.Ex.et e) fun _ _ _ q => e _ _ q
theorem TrV.is {H : Hp} {A : List Addr} {v : V} {t : PT Str} (h : TrV K H A v t) : ∀ b ∈ A, ∃ xs, H b = some (.lst xs) := by
  induction h with
  | clash s n => intro b hb; cases hb
  | @case p a vs ks AS s ha l1 l2 _ ih =>
    intro b hb
    rcases List.mem_cons.mp hb with rfl | hb
    · exact ⟨_, ha⟩
    · obtain ⟨A, hA, hb⟩ := List.mem_flatten.mp hb
      obtain ⟨i, hi⟩ := List.mem_iff_getElem?.mp hA
      have il : i < AS.length := (List.getElem?_eq_some_iff.mp hi).1
      exact ih i A _ _ hi (List.getElem?_eq_getElem (by omega)) (List.getElem?_eq_getElem (by omega)) b hb
theorem Fo.keep {H H' : Hp} {AS : List (List Addr)} {vs : List V} {ks : List (PT Str)} (h : Fo K H AS vs ks) (e : ET K H H') (k : ∀ b ∈ AS.flatten, ∀ xs, H b = some (.lst xs) → H' b = some (.lst xs)) : Fo K H' AS vs ks := ⟨h.l1, h.l2, fun i A v t h1 h2 h3 => (h.each i A v t h1 h2 h3).keep e fun b hb => k b (List.mem_flatten.mpr ⟨A, List.mem_iff_getElem?.mpr ⟨i, h1⟩, hb⟩)⟩
theorem Fo.ex {H H' : Hp} {AS : List (List Addr)} {vs : List V} {ks : List (PT Str)} (e : Ex H H') (h : Fo K H AS vs ks) : Fo K H' AS vs ks := h.keep (Dw.Ex.et e) fun _ _ _ q => e _ _ q
theorem Fo.is {H : Hp} {AS : List (List Addr)} {vs : List V} {ks : List (PT Str)} (h : Fo K H AS vs ks) : ∀ b ∈ AS.flatten, ∃ xs, H b = some (.lst xs) := fun b hb => by
  obtain ⟨A, hA, hb⟩ := List.mem_flatten.mp hb
  obtain ⟨i, hi⟩ := List.mem_iff_getElem?.mp hA
  have il : i < AS.length := (List.getElem?_eq_some_iff.mp hi).1
  have a := h.l1
  have c := h.l2
  exact (h.each i A _ _ hi (List.getElem?_eq_getElem (by omega)) (List.getElem?_eq_getElem (by omega))).is b hb
theorem Fo.nil {H : Hp} : Fo K H [] [] [] := ⟨rfl, rfl, fun i A v t h => by cases h⟩
theorem snoc_at {α : Type} {l : List α} {x y : α} {i : Nat} (h : (l ++ [x])[i]? = some y) : (i < l.length ∧ l[i]? = some y) ∨ (i = l.length ∧ x = y) := by
  by_cases z : i < l.length
  · rw [List.getElem?_append_left z] at h
    exact .inl ⟨z, h⟩
  · have il := (List.getElem?_eq_some_iff.mp h).1
    rw [List.length_append, List.length_singleton] at il
    have e : i = l.length := by omega
    subst e
    rw [List.getElem?_append_right (Nat.le_refl _), Nat.sub_self] at h
    exact .inr ⟨rfl, Option.some.inj h⟩
theorem Fo.snoc {H : Hp} {AS : List (List Addr)} {vs : List V} {ks : List (PT Str)} {A : List Addr} {v : V} {t : PT Str} (h : Fo K H AS vs ks) (ht : TrV K H A v t) : Fo K H (AS ++ [A]) (vs ++ [v]) (ks ++ [t]) := ⟨by rw [List.length_append, List.length_append, h.l1]; rfl, by rw [List.length_append, List.length_append, h.l2]; rfl, fun i A' v' t' h1 h2 h3 => by
  have a := h.l1
  have c := h.l2
  rcases snoc_at h1 with ⟨z, h1⟩ | ⟨z, rfl⟩
  · rcases snoc_at h2 with ⟨_, h2⟩ | ⟨y, _⟩
    · rcases snoc_at h3 with ⟨_, h3⟩ | ⟨y, _⟩
      · exact h.each i _ _ _ h1 h2 h3
      · omega
    · omega
  · rcases snoc_at h2 with ⟨y, _⟩ | ⟨_, rfl⟩
    · omega
    · rcases snoc_at h3 with ⟨y, _⟩ | ⟨_, rfl⟩
      · omega
      · exact ht⟩
end
/-- what is told of a first clash -/
def FcV (K : PySem.W.Frag) (H : Hp) (v : V) : Option (Str × List Nat) → Prop
  | none => v = .non
  | some c => ∃ a y, v = .ref a ∧ SqT K H a [.str "clash", .str c.1, y] ∧ Nats K H y c.2
/-- what is told of images -/
def LedV (K : PySem.W.Frag) (H0 H : Hp) (v : V) : List Nat ⊕ PT Str → Prop
  | .inl m => ∃ a x, v = .ref a ∧ SqT K H a [.str "map", x] ∧ Nats K H x m
  | .inr t => ∃ a x A, v = .ref a ∧ SqT K H a [.str "none", x] ∧ TrV K H A x t ∧ A.Nodup ∧ ∀ b ∈ A, H0 b = none
theorem LedV.back {K : PySem.W.Frag} {H0 H1 H : Hp} {v : V} {s : List Nat ⊕ PT Str} (e : Ex H0 H1) (h : LedV K H1 H v s) : LedV K H0 H v s := by
  cases s with
  | inl m => exact h
  | inr t =>
    obtain ⟨a, x, A, ev, s, tr, nd, no⟩ := h
    exact ⟨a, x, A, ev, s, tr, nd, fun b hb => fresh_back e (no b hb)⟩
structure IArg where
  p : MArg
  p2 : MArg
  F : List Nat
def IArg.Ok (x : IArg) : Prop := Two x.p x.p2 ∧ Bg x.p.2.1 x.F.length x.F
def ISays (K : PySem.W.Frag) (x : IArg) (vs : List V) (H : Hp) : Prop := ∃ u v w f, vs = [u, v, w, f] ∧ MA K H u v x.p ∧ Mdl K H w x.p2.2.1 x.p2.2.2 ∧ Nats K H f x.F
theorem cls_take {sg : List (Str × Nat)} {m i : Nat} {d : Str × Nat} (h : sg[i]? = some d) : cls (sg.take (i + 1)) m = cls (sg.take i) m ++ (rows m d.2).map fun r => (d.1, r) := by
  unfold cls
  rw [List.take_add_one, h, List.flatMap_append]
  show _ ++ List.flatMap _ [d] = _
  rw [List.flatMap_singleton]
theorem cls_split {sg : List (Str × Nat)} {m i : Nat} {d : Str × Nat} (h : sg[i]? = some d) : cls sg m = cls (sg.take i) m ++ ((rows m d.2).map fun r => (d.1, r)) ++ cls (sg.drop (i + 1)) m := by
  rw [← cls_take h]
  unfold cls
  rw [← List.flatMap_append, List.take_append_drop]
theorem find_at {α : Type} {f : α → Bool} {l : List α} {j : Nat} {x : α} (h : l[j]? = some x) (no : (l.take j).find? f = none) (y : f x = true) : l.find? f = some x := by
  conv => lhs; rw [← List.take_append_drop j l]
  rw [List.find?_append, no, List.drop_eq_getElem_cons (List.getElem?_eq_some_iff.mp h).1]
  have e : l[j]'(List.getElem?_eq_some_iff.mp h).1 = x := (List.getElem?_eq_some_iff.mp h).2
  rw [e, List.find?_cons_of_pos y]
  rfl
section
variable {P : Program} {w : World} {K : PySem.W.Frag} {mg : Str → Option Value} {base : Heap}
def sp_first_clash (K : PySem.W.Frag) : Sp := spX (fun (x : IArg) vs H => ISays K x vs H ∧ x.Ok) (fun x v H => FcV K H v (fc (sysOf x.p x.p2) x.F))
theorem c_first_clash (T : Txt mg) (D : Df K mg "first_clash" s_first_clash ["signature", "one", "other", "images"]) (c_rows_below : Cl P w K mg base 1 "rows_below" (sp_rows_below K)) (c_clashes : Cl P w K mg base 2 "clashes" (sp_clashes K)) : Cl P w K mg base 3 "first_clash" (sp_first_clash K) := by
  refine cl_of (k := 2) D sc_first_clash (fun vs H Q E h => ?_) (fun f cdv A outer s H vs Q E hr h => ?_)
  · obtain ⟨p, ⟨⟨u, v, w, f, rfl, _⟩, _⟩, _⟩ := h
    rfl
  · obtain ⟨⟨p, p2, F⟩, ⟨⟨u, v, w, f, rfl, hm, hw, hf⟩, tw, hF⟩, q⟩ := h
    refine ⟨_, (pss_cons (ps_for PassesOwn.never (by rfl) (pi_tup (pv 0)) (pg_tup (by rfl) (pgs_cons (pg_name (i := 4) sc_first_clash.nd rfl (.inl rfl)) (pgs_cons (pg_name (i := 5) sc_first_clash.nd rfl (.inl rfl)) pgs_nil)))
        (pss_one (ps_for PassesOwn.never (by rfl) (pi_list (pe_cl c_rows_below hr (by first | decide | omega) (by rfl) (pa_cons (pe_callB call_len_seq (by rfl) T.z_len PySem.boot_len (pa_cons (pv 3) pa_nil)) (pa_cons (pv 5) pa_nil)))) (pg_name (i := 6) sc_first_clash.nd rfl (.inl rfl))
          (pss_one (ps_if (pt_val (pe_cl c_clashes hr (by first | decide | omega) (by rfl) (pa_cons (pv 0) (pa_cons (pv 1) (pa_cons (pv 2) (pa_cons (pv 3) (pa_cons (pv 4) (pa_cons (pv 6) pa_nil))))))))
            (pss_one (ps_ret (pe_tup (pa_cons pe_str (pa_cons (pv 4) (pa_cons (pv 6) pa_nil))))))
            pss_nil)))))
      (pss_one (ps_ret pe_non))), ?_⟩
    replace hm : MA K H u v p := hm
    replace hw : Mdl K H w p2.2.1 p2.2.2 := hw
    replace hf : Nats K H f F := hf
    replace tw : Two p p2 := tw
    replace hF : Bg p.2.1 F.length F := hF
    obtain ⟨fa, rfl, hfa⟩ := id hf
    obtain ⟨a, us, rfl, hS, hP⟩ := id hm.1
    have lS : us.length = p.1.length := paired_len hP
    have n6 := tw.ok.2.n6
    have leF := hF.le
    refine q_forT (K := K) (ev_var rfl) hS (fun i σ H' => Ex H H' ∧ (cls (p.1.take i) F.length).find? (bad (sysOf p p2) F) = none ∧ ∃ y4 y5 y6, σ = [some (.ref a), some v, some w, some (.ref fa), y4, y5, y6])
      (fun H1 e1 => ⟨e1, rfl, none, none, none, rfl⟩) (fun i σ' H' _ ⟨e, _⟩ => ex_t e hS) (fun i x σ' H1 hx ⟨e1, no, y4, y5, y6, hσ⟩ => ?_) (fun σ' H1 ⟨e1, no, y4, y5, y6, hσ⟩ => ?_)
    · subst hσ
      obtain ⟨d, hd, b, rfl, hb⟩ := paired_at hP hx
      have mem := List.mem_iff_getElem?.mpr ⟨i, hd⟩
      have d2 := tw.ok.1.pl d mem
      refine ⟨b, _, rfl, ex_t e1 hb, rfl, _, _, rfl, _, _, rfl, rfl, ?_⟩
      refine s_forLs (do_evP (ep_call (F.length, d.2) (ea_cons (ev_lenN (K := K) (ev_var rfl) (ex_t e1 hfa)) (ea_cons (ev_var rfl) ea_nil)) (fun _ _ => ⟨rfl, by show F.length ≤ 6; omega, d2⟩)) fun rv H2 e2 ⟨ra, rvs, hra, hrl, prs⟩ => ⟨ra, hra, ⟨rvs, sq_of hrl⟩, ?_⟩)
      subst hra
      replace prs : Paired (Nats K H2) rvs (rows F.length d.2) := prs
      have e02 := e1.trans e2
      refine loops_list (K := K) (xs := rvs) (fun j σ H' => Ex H2 H' ∧ (((rows F.length d.2).map fun r => (d.1, r)).take j).find? (bad (sysOf p p2) F) = none ∧ ∃ y6, σ = [some (.ref a), some v, some w, some (.ref fa), some (.str d.1), some (vi d.2), y6])
        ⟨Ex.refl _, rfl, y6, rfl⟩ (fun j σ' H' _ ⟨e, _⟩ => sq_of (e _ _ hrl)) (fun j x σ' H3 hx2 ⟨e3, no2, y6, hσ⟩ => ?_) (fun σ' H3 ⟨e3, no2, y6, hσ⟩ => ?_)
      · subst hσ
        obtain ⟨r, hr2, hxr⟩ := paired_at prs hx2
        have rin := List.mem_iff_getElem?.mpr ⟨j, hr2⟩
        have e03 := e02.trans e3
        refine do_name ?_
        have hat : ((rows F.length d.2).map fun r => (d.1, r))[j]? = some (d.1, r) := by rw [List.getElem?_map, hr2]; rfl
        refine s_when (b := bad (sysOf p p2) F (d.1, r)) (et_val (ev_callV (⟨p, p2, F, d.1, d.2, r⟩ : CArg) (ea_cons (ev_var rfl) (ea_cons (ev_var rfl) (ea_cons (ev_var rfl) (ea_cons (ev_var rfl) (ea_cons (ev_var rfl) (ea_cons (ev_var rfl) ea_nil)))))) (fun H4 e4 => ⟨⟨_, _, _, _, _, rfl, hm.ex (e03.trans e4), hw.ex (e03.trans e4), hf.ex (e03.trans e4), hxr.ex (e3.trans e4)⟩, tw, hF, mem, rin⟩) (fun _ _ z => z))) (fun hb H4 e4 => ?_) (fun hb H4 e4 => ?_)
        · refine s_retP (tv_tup (K := K) (xs := [.str "clash", .str d.1, x]) (ea_cons ev_c (ea_cons (ev_var rfl) (ea_cons (ev_var rfl) ea_nil))) (by show 3 ≤ 100000; decide)) fun rv H5 e5 ⟨a5, ev, s5⟩ => q _ H5 ((e03.trans e4).trans e5) ?_
          have : fc (sysOf p p2) F = some (d.1, r) := by
            unfold fc
            show (cls p.1 F.length).find? _ = _
            rw [cls_split hd, List.find?_append, List.find?_append, no, find_at hat no2 hb]
            rfl
          show FcV K H5 rv (fc (sysOf p p2) F)
          rw [this]
          exact ⟨a5, x, ev, s5, hxr.ex ((e3.trans e4).trans e5)⟩
        · refine ⟨e3.trans e4, ?_, _, rfl⟩
          rw [List.take_add_one, hat, List.find?_append, no2]
          show none.or (List.find? _ [(d.1, r)]) = none
          rw [List.find?_cons_of_neg (by rw [hb]; decide)]
          rfl
      · subst hσ
        have full : ((rows F.length d.2).map fun r => (d.1, r)).take rvs.length = (rows F.length d.2).map fun r => (d.1, r) := List.take_of_length_le (by rw [List.length_map, paired_len prs]; exact Nat.le_refl _)
        rw [full] at no2
        refine ⟨e02.trans e3, ?_, _, _, _, rfl⟩
        rw [cls_take hd, List.find?_append, no, no2]
        rfl
    · subst hσ
      rw [lS, List.take_length] at no
      refine s_ret ev_c fun H2 e2 => q _ H2 (e1.trans e2) ?_
      show FcV K H2 V.non (fc (sysOf p p2) F)
      unfold fc
      show FcV K H2 V.non ((cls p.1 F.length).find? _)
      rw [no]
      exact rfl
end
end K24
end
section
namespace K24
open PySem PySem.Spec PyProof.Rows L2 Evl RZ Dw M20 M25 CL LK
/-- the free ones from a number on -/
def fr (n : Nat) (F : List Nat) (i : Nat) : List Nat := ((List.range n).drop i).filter fun k => !decide (k ∈ F)
theorem fr_step {n : Nat} {F : List Nat} {i : Nat} (h : i < n) : fr n F i = if i ∈ F then fr n F (i + 1) else i :: fr n F (i + 1) := by
  have e : (List.range n).drop i = i :: (List.range n).drop (i + 1) := by
    rw [List.drop_eq_getElem_cons (by rw [List.length_range]; exact h), List.getElem_range]
  unfold fr
  rw [e, List.filter_cons]
  by_cases z : i ∈ F
  · rw [decide_eq_true z, if_pos z]
    rfl
  · rw [decide_eq_false z, if_neg z]
    rfl
theorem goOn_inl {f : List Nat → List Nat ⊕ PT Str} {F xs m : List Nat} {x : Nat} {acc : List (PT Str)} (h : f (F ++ [x]) = .inl m) : goOn f F (x :: xs) acc = .inl m := by
  conv => lhs; unfold goOn
  rw [h]
theorem goOn_inr {f : List Nat → List Nat ⊕ PT Str} {F xs : List Nat} {x : Nat} {t : PT Str} {acc : List (PT Str)} (h : f (F ++ [x]) = .inr t) : goOn f F (x :: xs) acc = goOn f F xs (acc ++ [t]) := by
  conv => lhs; unfold goOn
  rw [h]
theorem fr_end (n : Nat) (F : List Nat) : fr n F n = [] := by
  unfold fr
  rw [List.drop_of_length_le (by rw [List.length_range]; exact Nat.le_refl _)]
  rfl
section
variable {σ : L2.St} {H : Hp} {t1 t2 t3 t4 : TE} {u v w : V} {P : V → Hp → Prop}
theorem eap_4 (h1 : Ev t1 σ H u) (h2 : Ev t2 σ H v) (h3 : Ev t3 σ H w) (h4 : EvP t4 σ H P) : EvAP (tCons t1 (tCons t2 (tCons t3 (tCons t4 tNil)))) σ H (fun vs H' => ∃ f, vs = [u, v, w, f] ∧ P f H') := fun H1 e1 Q q =>
  do_cons (h1 H1 e1 _ fun H2 e2 => do_cons (h2 H2 (e1.trans e2) _ fun H3 e3 => do_cons (h3 H3 ((e1.trans e2).trans e3) _ fun H4 e4 => do_cons (h4 H4 (((e1.trans e2).trans e3).trans e4) _ fun f H5 e5 hf => do_nil (q _ H5 (((e2.trans e3).trans e4).trans e5) ⟨f, rfl, hf⟩)))))
end
section
variable {P : Program} {w : World} {K : PySem.W.Frag} {mg : Str → Option Value} {base : Heap}
def sp_led (K : PySem.W.Frag) (d : Nat) : Sp := spG (fun (x : IArg) vs H => ISays K x vs H ∧ x.Ok ∧ x.F.length + d = x.p.2.1 + 1) (fun x H0 v H => LedV K H0 H v (LK.led (sysOf x.p x.p2) (x.p.2.1 - x.F.length) x.F))
theorem c_led_from (T : Txt mg) (D : Df K mg "led_from" s_led_from ["signature", "one", "other", "images"]) (c_first_clash : Cl P w K mg base 3 "first_clash" (sp_first_clash K)) : ∀ d : Nat, Cl P w K mg base (d + 4) "led_from" (sp_led K d)
  | 0 => cl_of (k := 3) D sc_led_from (fun vs H Q E h => by
      obtain ⟨p, ⟨⟨u, v, w, f, rfl, _⟩, _⟩, _⟩ := h
      rfl) (fun f cdv A outer s H vs Q E hr h => by
      obtain ⟨x, ⟨_, ok, e⟩, _⟩ := h
      have := ok.2.le
      omega)
  | d + 1 => by
    have c_rec := c_led_from T D c_first_clash d
    refine cl_of (k := d + 4) D sc_led_from (fun vs H Q E h => ?_) (fun f cdv A outer s H vs Q E hr h => ?_)
    · obtain ⟨p, ⟨⟨u, v, w, f, rfl, _⟩, _⟩, _⟩ := h
      rfl
    · obtain ⟨⟨p, p2, F⟩, ⟨⟨u, v, w, f, rfl, hm, hw, hf⟩, ⟨tw, hF⟩, ld⟩, q⟩ := h
      refine ⟨_, (pss_cons (ps_set (i := 4) sc_led_from.nd rfl (.inl rfl) (pe_cl c_first_clash hr (by first | decide | omega) (by rfl) (pa_cons (pv 0) (pa_cons (pv 1) (pa_cons (pv 2) (pa_cons (pv 3) pa_nil))))))
      (pss_cons (ps_if (pt_cmpR op_notN (pv 4) pe_non (nomark _))
        (pss_one (ps_ret (pe_tup (pa_cons pe_str (pa_cons (pv 4) pa_nil)))))
        pss_nil)
      (pss_cons (ps_if (pt_cmpR op_eq (pe_callB call_len_seq (by rfl) T.z_len PySem.boot_len (pa_cons (pv 3) pa_nil)) (pe_ix ix_tup (pv 1) pe_int (fun _ _ => rfl)) (nomark _))
        (pss_one (ps_ret (pe_tup (pa_cons pe_str (pa_cons (pv 3) pa_nil)))))
        pss_nil)
      (pss_cons (ps_set (i := 5) sc_led_from.nd rfl (.inl rfl) (pe_lst pa_nil))
      (pss_cons (ps_for PassesOwn.never (by rfl) (pi_range1 (by rfl) T.z_range (pa_cons (pe_ix ix_tup (pv 1) pe_int (fun _ _ => rfl)) pa_nil)) (pg_name (i := 6) sc_led_from.nd rfl (.inl rfl))
        (pss_one (ps_if (pt_cmpR op_notIn_seq (pv 6) (pv 3) (by rfl))
          (pss_cons (ps_set (i := 7) sc_led_from.nd rfl (.inl rfl) (pe_cl c_rec hr (by first | decide | omega) (by rfl) (pa_cons (pv 0) (pa_cons (pv 1) (pa_cons (pv 2) (pa_cons (pe_op op_catA (pv 3) (pe_tup (pa_cons (pv 6) pa_nil))) pa_nil))))))
          (pss_cons (ps_if (pt_cmpR op_eq (pe_ix ix_tup (pv 7) pe_int (fun _ _ => rfl)) pe_str (nomark _))
            (pss_one (ps_ret (pv 7)))
            pss_nil)
          (pss_one (ps_expr (pe_bm PySem.F.plainAttrs_list PySem.F.slot_list_append PySem.F.type_list_append mt_append (pv 5) (pa_cons (pe_ix ix_tup (pv 7) pe_int (fun _ _ => rfl)) pa_nil))))))
          pss_nil)))
      (pss_one (ps_ret (pe_tup (pa_cons pe_str (pa_cons (pe_tup (pa_cons pe_str (pa_cons (pv 5) pa_nil))) pa_nil)))))))))), ?_⟩
      replace hm : MA K H u v p := hm
      replace hw : Mdl K H w p2.2.1 p2.2.2 := hw
      replace hf : Nats K H f F := hf
      replace tw : Two p p2 := tw
      replace hF : Bg p.2.1 F.length F := hF
      replace ld : F.length + (d + 1) = p.2.1 + 1 := ld
      replace q : ∀ v H', Ex H H' → LedV K H H' v (LK.led (sysOf p p2) (p.2.1 - F.length) F) → Q v H' := q
      obtain ⟨fa, rfl, hfa⟩ := id hf
      obtain ⟨va, vt, rfl, hva, hvt⟩ := id hm.2
      have n6 := tw.ok.2.n6
      have kd : p.2.1 - F.length = d := by omega
      rw [kd] at q
      refine q_asgP (P := fun v H' => FcV K H' v (fc (sysOf p p2) F)) (ep_call (⟨p, p2, F⟩ : IArg) (ea_cons (ev_var rfl) (ea_cons (ev_var rfl) (ea_cons (ev_var rfl) (ea_cons (ev_var rfl) ea_nil)))) (fun H1 e1 => ⟨⟨_, _, _, _, rfl, hm.ex e1, hw.ex e1, hf.ex e1⟩, tw, hF⟩)) fun cv H1 e1 hcv => ?_
      cases hfc : fc (sysOf p p2) F with
      | some c =>
        rw [hfc] at hcv
        obtain ⟨a, y, ev, hc, hy⟩ := hcv
        subst ev
        refine q_when (b := true) (et_is (et_isN (ev_var rfl)) rfl) (fun _ H2 e2 => ?_) (fun hb => by cases hb)
        refine s_retP (tv_tup (K := K) (xs := [.str "none", .ref a]) (ea_cons ev_c (ea_cons (ev_var rfl) ea_nil)) (by show 2 ≤ 100000; decide)) fun rv H3 e3 ⟨b, ev, hb⟩ => q _ H3 ((e1.trans e2).trans e3) ?_
        have e : LK.led (sysOf p p2) d F = .inr (.clash c.1 c.2) := by
          cases d <;> (unfold LK.led; rw [hfc])
        rw [e]
        exact ⟨b, .ref a, [], ev, hb, .clash (ex_t (e2.trans e3) hc) (hy.ex (e2.trans e3)), List.nodup_nil, fun b hb => by cases hb⟩
      | none =>
        rw [hfc] at hcv
        replace hcv : cv = .non := hcv
        subst hcv
        refine q_when (b := false) (et_is (et_isN (ev_var rfl)) rfl) (fun hb => by cases hb) (fun _ H2 e2 => ?_)
        have e02 := e1.trans e2
        refine q_when (b := decide (F.length = p.2.1)) (et_is (et_test (ev_op (ev_lenN (K := K) (ev_var rfl) (ex_t e02 hfa)) (ev_op (ev_var rfl) ev_c (rv_ixT (K := K) (ex_t e02 hva) (atI_vi (k := 0) rfl))) (rv_eq rfl))) vi_eq) (fun hb H3 e3 => ?_) (fun hb H3 e3 => ?_)
        · have z := of_decide_eq_true hb
          refine s_retP (tv_tup (K := K) (xs := [.str "map", .ref fa]) (ea_cons ev_c (ea_cons (ev_var rfl) ea_nil)) (by show 2 ≤ 100000; decide)) fun rv H4 e4 ⟨b, ev, hb⟩ => q _ H4 ((e02.trans e3).trans e4) ?_
          have d0 : d = 0 := by omega
          subst d0
          unfold LK.led
          rw [hfc]
          exact ⟨b, .ref fa, ev, hb, hf.ex ((e02.trans e3).trans e4)⟩
        · have z := of_decide_eq_false hb
          have e03 := e02.trans e3
          obtain ⟨k, rfl⟩ : ∃ k, d = k + 1 := ⟨d - 1, by omega⟩
          have eled : LK.led (sysOf p p2) (k + 1) F = goOn (LK.led (sysOf p p2) k) F (fr p.2.1 F 0) [] := by
            conv => lhs; unfold LK.led
            rw [hfc]
            rfl
          rw [eled] at q
          refine q_asgL (el_lst ea_nil (Nat.zero_le _)) fun m H4 nm e4 hm4 => ?_
          have e04 := e03.trans e4
          have nmH : H m = none := fresh_back e03 nm
          refine q_forR1 (n := (p.2.1 : Int)) (ea_cons (ev_op (ev_var rfl) ev_c (rv_ixT (K := K) (ex_t e04 hva) (atI_vi (k := 0) rfl))) ea_nil) ⟨by omega, by omega⟩ (fun i σ H' => Ex H H' ∧ (∃ AS vs ks, H' m = some (.lst vs) ∧ Fo K H' AS vs ks ∧ AS.flatten.Nodup ∧ (∀ b ∈ AS.flatten, H b = none ∧ b ≠ m) ∧ ks.length ≤ i ∧ goOn (LK.led (sysOf p p2) k) F (fr p.2.1 F 0) [] = goOn (LK.led (sysOf p p2) k) F (fr p.2.1 F i) ks) ∧ ∃ y6 y7, σ = [some u, some (.ref va), some w, some (.ref fa), some .non, some (.ref m), y6, y7])
            (fun H5 e5 => ⟨e04.trans e5, ⟨[], [], [], e5 _ _ hm4, Fo.nil, List.nodup_nil, fun b hb => (by cases hb), Nat.le_refl _, rfl⟩, none, none, rfl⟩) (fun i σ' H5 hi ⟨e5, ⟨AS, vs, ks, hm5, fo, nd, off, lk, eg⟩, y6, y7, hσ⟩ => ?_) (fun σ' H5 ⟨e5, ⟨AS, vs, ks, hm5, fo, nd, off, lk, eg⟩, y6, y7, hσ⟩ => ?_)
          · subst hσ
            have hin : i < p.2.1 := by omega
            rw [fr_step hin] at eg
            refine s_when (b := !decide (i ∈ F)) (et_is (et_test (ev_op (ev_var rfl) (ev_var rfl) (rv_niT (K := K) (ex_t e5 hfa) rfl (flat_vi F)))) (by rw [inV_vi])) (fun hb H6 e6 => ?_) (fun hb H6 e6 => ?_)
            · have ni : i ∉ F := fun zz => by rw [decide_eq_true zz] at hb; cases hb
              rw [if_neg ni] at eg
              have e06 := e5.trans e6
              have hm6 := e6 _ _ hm5
              refine q_asgP (P := fun v H' => LedV K H6 H' v (LK.led (sysOf p p2) k (F ++ [i]))) (ep_callGP (⟨p, p2, F ++ [i]⟩ : IArg) (eap_4 (P := fun v H' => Nats K H' v (F ++ [i])) (ev_var rfl) (ev_var rfl) (ev_var rfl) (tv_nats (tv_is (tv_cat (tv_ev (ev_var rfl) (ex_t e06 hfa)) (tv_tup (xs := [vi i]) (ea_cons (ev_var rfl) ea_nil) (by show 1 ≤ 100000; decide)) (by rw [List.length_map]; show F.length + 1 ≤ 100000; omega)) (by rw [List.map_append]; rfl)))) (fun vs' H7 e7 ⟨f7, ev, hf7⟩ => ?_) (fun H7 v7 H8 e7 e8 h => ?_)) fun tv H7 e7 htv => ?_
              · subst ev
                refine ⟨⟨_, _, _, _, rfl, hm.ex (e06.trans e7), hw.ex (e06.trans e7), hf7⟩, ⟨tw, ?_⟩, ?_⟩
                · show Bg p.2.1 (F ++ [i]).length (F ++ [i])
                  rw [List.length_append]
                  exact hF.snoc hin ni
                · show (F ++ [i]).length + (k + 1) = p.2.1 + 1
                  rw [List.length_append, List.length_singleton]
                  omega
              · have ek : p.2.1 - (F ++ [i]).length = k := by
                  rw [List.length_append, List.length_singleton]
                  omega
                replace h : LedV K H7 H8 v7 (LK.led (sysOf p p2) (p.2.1 - (F ++ [i]).length) (F ++ [i])) := h
                rw [ek] at h
                exact h.back e7
              · have e07 := e06.trans e7
                have hm7 := e7 _ _ hm6
                cases hl : LK.led (sysOf p p2) k (F ++ [i]) with
                | inl mp =>
                  rw [hl] at htv
                  rw [goOn_inl hl] at eg
                  obtain ⟨b, x, ev, hb7, hx⟩ := htv
                  subst ev
                  refine q_when (b := true) (et_is (et_test (ev_op (ev_op (ev_var rfl) ev_c (rv_ixT (K := K) hb7 (atI_vi (k := 0) rfl))) ev_c (rv_eq rfl))) rfl) (fun _ H8 e8 => ?_) (fun hb => by cases hb)
                  refine s_ret (ev_var rfl) fun H9 e9 => q _ H9 ((e07.trans e8).trans e9) ?_
                  rw [eg]
                  exact ⟨b, x, rfl, ex_t (e8.trans e9) hb7, hx.ex (e8.trans e9)⟩
                | inr t =>
                  rw [hl] at htv
                  rw [goOn_inr hl] at eg
                  obtain ⟨b, x, A, ev, hb7, tr, nA, oA⟩ := htv
                  subst ev
                  refine q_when (b := false) (et_is (et_test (ev_op (ev_op (ev_var rfl) ev_c (rv_ixT (K := K) hb7 (atI_vi (k := 0) rfl))) ev_c (rv_eq rfl))) rfl) (fun hb => by cases hb) (fun _ H8 e8 => ?_)
                  have hm8 := e8 _ _ hm7
                  have l2 := fo.l2
                  refine s_app hm8 (ev_var rfl) (ev_op (ev_var rfl) ev_c (rv_ixT (K := K) (ex_t e8 hb7) (atI_vi (k := 1) rfl))) (by omega) fun H9 e9 => ?_
                  have hm9 := e9 _ _ hm8
                  have e69 := (e7.trans e8).trans e9
                  have et : ET K H9 (upd H9 m (.lst (vs ++ [x]))) := ET.refl.upd hm9
                  have mA : ∀ b ∈ A, b ≠ m := fun b hb zz => by
                    have := oA b hb
                    rw [zz, hm6] at this
                    cases this
                  refine ⟨(e06.trans e69).mut nmH, ⟨AS ++ [A], vs ++ [x], ks ++ [t], upd_same, Fo.snoc ((fo.ex (e6.trans e69)).keep et fun b hb xs hxs => by rw [upd_ne (off b hb).2]; exact hxs) ((tr.ex (e8.trans e9)).keep et fun b hb xs hxs => by rw [upd_ne (mA b hb)]; exact hxs), ?_, ?_, ?_, eg⟩, _, _, rfl⟩
                  · rw [List.flatten_append, List.flatten_singleton]
                    refine List.nodup_append.mpr ⟨nd, nA, fun a ha b hb zz => ?_⟩
                    obtain ⟨xs, hxs⟩ := fo.is a ha
                    have := oA b hb
                    rw [← zz, e6 _ _ hxs] at this
                    cases this
                  · intro b hb
                    rw [List.flatten_append, List.flatten_singleton] at hb
                    rcases List.mem_append.mp hb with hb | hb
                    · exact off b hb
                    · exact ⟨fresh_back e06 (oA b hb), mA b hb⟩
                  · rw [List.length_append, List.length_singleton]
                    omega
            · have ni : i ∈ F := by
                rw [Bool.not_eq_false'] at hb
                exact of_decide_eq_true hb
              rw [if_pos ni] at eg
              exact ⟨e5.trans e6, ⟨AS, vs, ks, e6 _ _ hm5, fo.ex e6, nd, off, by omega, eg⟩, _, _, rfl⟩
          · subst hσ
            rw [Int.toNat_natCast, fr_end] at eg
            refine s_retP (ep_tup2 (K := K) (P := fun v _ => v = .str "none") (R2 := fun v H' => TV K H' v [.str "case", .ref m]) (ep_ev ev_c fun _ _ => rfl) (tv_tup (ea_cons ev_c (ea_cons (ev_var rfl) ea_nil)) (by show 2 ≤ 100000; decide)) (fun v H H' e h => h) (fun v H H' e h => h.ex e)) fun rv H6 e6 ⟨b, x, y, ev, hb, hx, hy⟩ => q _ H6 (e5.trans e6) ?_
            rw [eg]
            obtain ⟨ya, ey, hya⟩ := hy
            subst hx ey
            have fo6 := fo.ex e6
            exact ⟨b, _, m :: AS.flatten, ev, hb, .case hya (e6 _ _ hm5) fo6.l1 fo6.l2 fo6.each, List.nodup_cons.mpr ⟨fun zz => (off m zz).2 rfl, nd⟩, fun b hb => by
              rcases List.mem_cons.mp hb with rfl | hb
              · exact nmH
              · exact (off b hb).1⟩
/-! ### likeness -/
structure Pair2 (p p2 : MArg) : Prop where
  ok : MOk p
  ok2 : MOk p2
  es : p2.1 = p.1
def LkV (K : PySem.W.Frag) (H0 H : Hp) (v : V) (p p2 : MArg) : Prop := if p.2.1 = p2.2.1 then LedV K H0 H v (LK.led (sysOf p p2) p.2.1 []) else TV K H v [.str "size"]
theorem LkV.back {H0 H1 H : Hp} {v : V} {p p2 : MArg} (e : Ex H0 H1) (h : LkV K H1 H v p p2) : LkV K H0 H v p p2 := by
  unfold LkV at h ⊢
  by_cases z : p.2.1 = p2.2.1
  · rw [if_pos z] at h ⊢
    exact h.back e
  · rw [if_neg z] at h ⊢
    exact h
def MSays (K : PySem.W.Frag) (x : MArg × MArg) (vs : List V) (H : Hp) : Prop := ∃ u v w, vs = [u, v, w] ∧ MA K H u v x.1 ∧ Mdl K H w x.2.2.1 x.2.2.2
def sp_likeness (K : PySem.W.Frag) : Sp := spG (fun (x : MArg × MArg) vs H => MSays K x vs H ∧ Pair2 x.1 x.2) (fun x H0 v H => LkV K H0 H v x.1 x.2)
theorem c_likeness (T : Txt mg) (D : Df K mg "likeness" s_likeness ["signature", "one", "other"]) (c_need_two_models : Cl P w K mg base 8 "need_two_models" (sp_need_two K)) (c_led : ∀ d : Nat, Cl P w K mg base (d + 4) "led_from" (sp_led K d)) : Cl P w K mg base 12 "likeness" (sp_likeness K) := by
  refine cl_of (k := 11) D sc_likeness (fun vs H Q E h => ?_) (fun f cdv A outer s H vs Q E hr h => ?_)
  · obtain ⟨p, ⟨⟨u, v, w, rfl, _⟩, _⟩, _⟩ := h
    rfl
  · obtain ⟨⟨p, p2⟩, ⟨⟨u, v, x3, rfl, hm, hw⟩, ok, ok2, es⟩, q⟩ := h
    have c_led_from : Cl P w K mg base (p.2.1 + 5) "led_from" (sp_led K (p.2.1 + 1)) := c_led (p.2.1 + 1)
    have n6 : p.2.1 ≤ 6 := MdlOk.n6 (show MdlOk p.1 p.2.1 p.2.2 from ok.2)
    refine ⟨_, (pss_cons (ps_expr (pe_cl c_need_two_models hr (by first | decide | omega) (by rfl) (pa_cons (pv 0) (pa_cons (pv 1) (pa_cons (pv 2) pa_nil)))))
      (pss_cons (ps_if (pt_cmpR op_ne (pe_ix ix_tup (pv 1) pe_int (fun _ _ => rfl)) (pe_ix ix_tup (pv 2) pe_int (fun _ _ => rfl)) (nomark _))
        (pss_one (ps_ret (pe_tup (pa_cons pe_str pa_nil))))
        pss_nil)
      (pss_one (ps_ret (pe_cl c_led_from hr (by first | decide | omega) (by rfl) (pa_cons (pv 0) (pa_cons (pv 1) (pa_cons (pv 2) (pa_cons (pe_tup pa_nil) pa_nil))))))))), ?_⟩
    replace hm : MA K H u v p := hm
    replace hw : Mdl K H x3 p2.2.1 p2.2.2 := hw
    replace ok : MOk p := ok
    replace ok2 : MOk p2 := ok2
    replace es : p2.1 = p.1 := es
    replace q : ∀ v H', Ex H H' → LkV K H H' v p p2 → Q v H' := q
    obtain ⟨va, vt, rfl, hva, hvt⟩ := id hm.2
    obtain ⟨wa, wt, rfl, hwa, hwt⟩ := id hw
    refine q_drop (v := .non) (ev_callV (p, p2) (ea_cons (ev_var rfl) (ea_cons (ev_var rfl) (ea_cons (ev_var rfl) ea_nil))) (fun H1 e1 => ⟨⟨_, _, _, rfl, hm.ex e1, hw.ex e1⟩, ok, ok2, es⟩) (fun _ _ z => z)) fun H1 e1 => ?_
    refine q_when (b := !decide (p.2.1 = p2.2.1)) (et_is (et_test (ev_op (ev_op (ev_var rfl) ev_c (rv_ixT (K := K) (ex_t e1 hva) (atI_vi (k := 0) rfl))) (ev_op (ev_var rfl) ev_c (rv_ixT (K := K) (ex_t e1 hwa) (atI_vi (k := 0) rfl))) (rv_ne rfl))) (by rw [vi_eq])) (fun hb H2 e2 => ?_) (fun hb H2 e2 => ?_)
    · have ne : p.2.1 ≠ p2.2.1 := fun zz => by rw [decide_eq_true zz] at hb; cases hb
      refine s_retP (tv_tup (K := K) (xs := [.str "size"]) (ea_cons ev_c ea_nil) (by show 1 ≤ 100000; decide)) fun rv H3 e3 hv => q _ H3 ((e1.trans e2).trans e3) ?_
      unfold LkV
      rw [if_neg ne]
      exact hv
    · have en : p.2.1 = p2.2.1 := by
        rw [Bool.not_eq_false'] at hb
        exact of_decide_eq_true hb
      have e02 := e1.trans e2
      refine s_retP (P := fun v H' => LedV K H2 H' v (LK.led (sysOf p p2) p.2.1 [])) (ep_callGP (⟨p, p2, []⟩ : IArg) (eap_4 (P := fun v H' => Nats K H' v []) (ev_var rfl) (ev_var rfl) (ev_var rfl) (tv_nats (tv_tup ea_nil (Nat.zero_le _)))) (fun vs' H3 e3 ⟨f3, ev, hf3⟩ => by
        subst ev
        exact ⟨⟨_, _, _, _, rfl, hm.ex (e02.trans e3), hw.ex (e02.trans e3), hf3⟩, ⟨⟨ok, ok2, es, en.symm⟩, ⟨rfl, fun x z => (by cases z), List.nodup_nil⟩⟩, by show 0 + (p.2.1 + 1) = p.2.1 + 1; omega⟩) (fun H3 v3 H4 e3 e4 h => LedV.back e3 h)) fun rv H3 e3 hv => q _ H3 (e02.trans e3) ?_
      unfold LkV
      rw [if_pos en]
      exact hv.back e02
end
end K24
end
section
namespace K24
open PySem PySem.Spec PyProof.Rows L2 Evl RZ Dw M20
/-! data whose lists are none of the purse's -/
mutual
inductive Dz (K : PySem.W.Frag) (p c : Addr) (H : Hp) : V → PyData → Prop where
  | non : Dz K p c H .non .none
  | bl (b : Bool) : Dz K p c H (.bl b) (.bool b)
  | int (i : Int) : Dz K p c H (.int i) (.int i)
  | str (x : Str) : Dz K p c H (.str x) (.str x)
  | lst {a : Addr} {xs : List V} {ds : List PyData} (h : H a = some (.lst xs)) (hp : a ≠ p) (hc : a ≠ c) (r : DzAll K p c H xs ds) : Dz K p c H (.ref a) (.list ds)
  | tup {a : Addr} {xs : List V} {ds : List PyData} (h : SqT K H a xs) (r : DzAll K p c H xs ds) : Dz K p c H (.ref a) (.tuple ds)
inductive DzAll (K : PySem.W.Frag) (p c : Addr) (H : Hp) : List V → List PyData → Prop where
  | nil : DzAll K p c H [] []
  | cons {v : V} {vs : List V} {d : PyData} {ds : List PyData} (a : Dz K p c H v d) (b : DzAll K p c H vs ds) : DzAll K p c H (v :: vs) (d :: ds)
end
section
variable {P : Program} {w : World} {K : PySem.W.Frag} {mg : Str → Option Value} {base : Heap} {σ : L2.St} {H H' : Hp} {p c : Addr} {n : Nat} {v : V} {d : PyData}
mutual
theorem Dz.dp : ∀ {v : V} {d : PyData}, Dz K p c H v d → Dp K H v d
  | _, _, .non => .non
  | _, _, .bl b => .bl b
  | _, _, .int i => .int i
  | _, _, .str x => .str x
  | _, _, .lst h _ _ r => .lst (sq_of h) (DzAll.dp r)
  | _, _, .tup h r => .tup h (DzAll.dp r)
theorem DzAll.dp : ∀ {vs : List V} {ds : List PyData}, DzAll K p c H vs ds → DpAll K H vs ds
  | _, _, .nil => .nil
  | _, _, .cons a b => .cons (Dz.dp a) (DzAll.dp b)
end
mutual
theorem Dz.ex (e : Ex H H') : ∀ {v : V} {d : PyData}, Dz K p c H v d → Dz K p c H' v d
  | _, _, .non => .non
  | _, _, .bl b => .bl b
  | _, _, .int i => .int i
  | _, _, .str x => .str x
  | _, _, .lst h hp hc r => .lst (e _ _ h) hp hc (DzAll.ex e r)
  | _, _, .tup h r => .tup (ex_t e h) (DzAll.ex e r)
theorem DzAll.ex (e : Ex H H') : ∀ {vs : List V} {ds : List PyData}, DzAll K p c H vs ds → DzAll K p c H' vs ds
  | _, _, .nil => .nil
  | _, _, .cons a b => .cons (Dz.ex e a) (DzAll.ex e b)
end
mutual
theorem Dz.off (pu : Pur H p c n) (o : Off H H' p c) : ∀ {v : V} {d : PyData}, Dz K p c H v d → Dz K p c H' v d
  | _, _, .non => .non
  | _, _, .bl b => .bl b
  | _, _, .int i => .int i
  | _, _, .str x => .str x
  | _, _, .lst h hp hc r => .lst (o _ _ hp hc h) hp hc (DzAll.off pu o r)
  | _, _, .tup h r => .tup (o.et pu _ _ h) (DzAll.off pu o r)
theorem DzAll.off (pu : Pur H p c n) (o : Off H H' p c) : ∀ {vs : List V} {ds : List PyData}, DzAll K p c H vs ds → DzAll K p c H' vs ds
  | _, _, .nil => .nil
  | _, _, .cons a b => .cons (Dz.off pu o a) (DzAll.off pu o b)
end
theorem DzAll.len : ∀ {vs : List V} {ds : List PyData}, DzAll K p c H vs ds → vs.length = ds.length
  | _, _, .nil => rfl
  | _, _, .cons a b => by rw [List.length_cons, List.length_cons, DzAll.len b]
theorem DzAll.get : ∀ {vs : List V} {ds : List PyData} {k : Nat} {x : V}, DzAll K p c H vs ds → vs[k]? = some x → ∃ e, ds[k]? = some e ∧ Dz K p c H x e
  | _, _, k, _, .nil, h => by
    rw [List.getElem?_nil] at h
    cases h
  | _, _, 0, x, .cons a b, h => by
    cases Option.some.inj h
    exact ⟨_, rfl, a⟩
  | _, _, k + 1, x, .cons a b, h => DzAll.get (k := k) b h
theorem DzAll.app : ∀ {vs us : List V} {ds es : List PyData}, DzAll K p c H vs ds → DzAll K p c H us es → DzAll K p c H (vs ++ us) (ds ++ es)
  | _, _, _, _, .nil, h => h
  | _, _, _, _, .cons a b, h => .cons a (DzAll.app b h)
theorem DzAll.take : ∀ {vs : List V} {ds : List PyData} (k : Nat), DzAll K p c H vs ds → DzAll K p c H (vs.take k) (ds.take k)
  | _, _, k, .nil => by
    rw [List.take_nil, List.take_nil]
    exact .nil
  | _, _, 0, .cons a b => .nil
  | _, _, k + 1, .cons a b => .cons a (DzAll.take k b)
theorem DzAll.drop : ∀ {vs : List V} {ds : List PyData} (k : Nat), DzAll K p c H vs ds → DzAll K p c H (vs.drop k) (ds.drop k)
  | _, _, k, .nil => by
    rw [List.drop_nil, List.drop_nil]
    exact .nil
  | _, _, 0, .cons a b => .cons a b
  | _, _, k + 1, .cons a b => DzAll.drop k b
/-! bounded data, ints of up to forty signs -/
structure Gb (k W : Nat) (d : PyData) : Prop where
  lay : d.canLay0 = true
  dep : d.depth ≤ k
  wgt : d.weight ≤ W
  its : d.intsShort 40 = true
  sho : d.showable = true
theorem Gb.mono {k W k' W' : Nat} {d : PyData} (h : Gb k W d) (a : k ≤ k') (b : W ≤ W') : Gb k' W' d := ⟨h.lay, Nat.le_trans h.dep a, Nat.le_trans h.wgt b, h.its, h.sho⟩
theorem Gb.len {k W : Nat} {d : PyData} (h : Gb k W d) (b : W ≤ 100000) : d.shown.length ≤ sizeLine := by
  have z := PyData.shown_le 40 (by decide) d (PyData.leavesShort_of_canLay0 40 d h.lay h.its)
  have y := h.wgt
  rw [sizeLine_eq]
  omega
/-! what isinstance says -/
def isStr : PyData → Bool
  | .str _ => true
  | _ => false
def isTup : PyData → Bool
  | .tuple _ => true
  | _ => false
def wholeB : PyData → Bool
  | .int _ => true
  | _ => false
theorem ev_isStr {ta tb : TE} (ha : Ev ta σ H v) (hc : Ev tb σ H (.ty "str")) (h : Dz K p c H v d) : Ev (tCB (rIsi K) (tCons ta (tCons tb tNil))) σ H (.bl (isStr d)) := by
  cases h with
  | non => exact ev_isi (b := false) ha hc (.ty _) (fun _ _ => tyx_non) (kit_ty (by decide +kernel))
  | bl b => exact ev_isi (b := false) ha hc (.ty _) (fun _ _ => tyx_bl b) (kit_ty (by decide +kernel))
  | int i => exact ev_isi (b := false) ha hc (.ty _) (fun _ _ => tyx_int i) (kit_ty (by decide +kernel))
  | str z => exact ev_isi (b := true) ha hc (.ty _) (fun _ _ => tyx_str z) (kit_ty (by decide +kernel))
  | lst h _ _ _ => exact ev_isi (b := false) ha hc (.ty _) (fun _ e => .base (.lst (e _ _ h))) (kit_ty (by decide +kernel))
  | tup h _ => exact ev_isi (b := false) ha hc (.ty _) (fun _ e => tyx_tup (ex_t e h)) (kit_ty (by decide +kernel))
theorem ev_isTup {ta tb : TE} (ha : Ev ta σ H v) (hc : Ev tb σ H (.ty "tuple")) (h : Dz K p c H v d) : Ev (tCB (rIsi K) (tCons ta (tCons tb tNil))) σ H (.bl (isTup d)) := by
  cases h with
  | non => exact ev_isi (b := false) ha hc (.ty _) (fun _ _ => tyx_non) (kit_ty (by decide +kernel))
  | bl b => exact ev_isi (b := false) ha hc (.ty _) (fun _ _ => tyx_bl b) (kit_ty (by decide +kernel))
  | int i => exact ev_isi (b := false) ha hc (.ty _) (fun _ _ => tyx_int i) (kit_ty (by decide +kernel))
  | str z => exact ev_isi (b := false) ha hc (.ty _) (fun _ _ => tyx_str z) (kit_ty (by decide +kernel))
  | lst h _ _ _ => exact ev_isi (b := false) ha hc (.ty _) (fun _ e => .base (.lst (e _ _ h))) (kit_ty (by decide +kernel))
  | tup h _ => exact ev_isi (b := true) ha hc (.ty _) (fun _ e => tyx_tup (ex_t e h)) (kit_ty (by decide +kernel))
theorem ev_isIntB {ta tb tc td : TE} (ha : Ev ta σ H v) (hc : Ev tb σ H (.ty "int")) (ha2 : Ev tc σ H v) (hc2 : Ev td σ H (.ty "bool")) (h : Dz K p c H v d) : Ev (tAndV (tCB (rIsi K) (tCons ta (tCons tb tNil))) (tNotV (tCB (rIsi K) (tCons tc (tCons td tNil))))) σ H (.bl (wholeB d)) := by
  cases h with
  | non => exact ev_andV (a := false) (b := false) (ev_isi ha hc (.ty _) (fun _ _ => tyx_non) (kit_ty (by decide +kernel))) (fun z => by cases z)
  | bl b => exact ev_andV (a := true) (b := false) (ev_isi ha hc (.ty _) (fun _ _ => tyx_bl b) (kit_ty (by decide +kernel))) (fun _ => ev_notV (a := true) (ev_isi ha2 hc2 (.ty _) (fun _ _ => tyx_bl b) (kit_ty (by decide +kernel))))
  | int i => exact ev_andV (a := true) (b := true) (ev_isi ha hc (.ty _) (fun _ _ => tyx_int i) (kit_ty (by decide +kernel))) (fun _ => ev_notV (a := false) (ev_isi ha2 hc2 (.ty _) (fun _ _ => tyx_int i) (kit_ty (by decide +kernel))))
  | str z => exact ev_andV (a := false) (b := false) (ev_isi ha hc (.ty _) (fun _ _ => tyx_str z) (kit_ty (by decide +kernel))) (fun z => by cases z)
  | lst h _ _ _ => exact ev_andV (a := false) (b := false) (ev_isi ha hc (.ty _) (fun _ e => .base (.lst (e _ _ h))) (kit_ty (by decide +kernel))) (fun z => by cases z)
  | tup h _ => exact ev_andV (a := false) (b := false) (ev_isi ha hc (.ty _) (fun _ e => tyx_tup (ex_t e h)) (kit_ty (by decide +kernel))) (fun z => by cases z)
end
def inL (x : Nat) : Bool := decide (x ∈ letters.cps.toList)
def nameB : PyData → Bool
  | .str z => decide (1 ≤ z.length) && decide (z.length ≤ 4) && z.cps.toList.all inL
  | _ => false
def belowB (n : Int) : PyData → Bool
  | .int i => decide (0 ≤ i) && decide (i < n)
  | _ => false
def deedB : PyData → Bool
  | .tuple [a, b] => nameB a && belowB 3 b
  | _ => false
def nameOf : PyData → Str
  | .tuple (.str z :: _) => z
  | _ => ""
def oddK (ds : List PyData) : List Nat := (List.range ds.length).filter fun k => !deedB (ds.getD k .none)
def twiceK (ns : List Str) : List Nat := (List.range ns.length).filter fun k => decide (ns.getD k "" ∈ ns.take k)
def dK2 (w : Str) (k : Nat) : PyData := .tuple [.str w, .int ((k : Nat) : Int)]
def sigW : PyData → PyData
  | .tuple ds => if 1 ≤ ds.length ∧ ds.length ≤ 4 then (match oddK ds with
    | k :: _ => dK2 "deed" k
    | [] => match twiceK (ds.map nameOf) with
      | k :: _ => dK2 "twice" k
      | [] => .none) else .tuple [.str "signature"]
  | _ => .tuple [.str "signature"]
theorem filt_first {f : Nat → Bool} {n i : Nat} (hi : i < n) (h0 : ∀ j, j < i → f j = false) (h1 : f i = true) : ∃ r, (List.range n).filter f = i :: r := by
  obtain ⟨m, rfl⟩ : ∃ m, n = i + (m + 1) := ⟨n - i - 1, by omega⟩
  rw [List.range_add, List.filter_append]
  have e : (List.range i).filter f = [] := List.filter_eq_nil_iff.mpr (fun j hj => by rw [h0 j (List.mem_range.mp hj)]; decide)
  rw [e, List.nil_append, List.range_succ_eq_map, List.map_cons, List.filter_cons_of_pos (by rw [Nat.add_zero]; exact h1)]
  exact ⟨_, rfl⟩
theorem filt_none {f : Nat → Bool} {n : Nat} (h0 : ∀ j, j < n → f j = false) : (List.range n).filter f = [] := List.filter_eq_nil_iff.mpr (fun j hj => by rw [h0 j (List.mem_range.mp hj)]; decide)
section
variable {P : Program} {w : World} {K : PySem.W.Frag} {mg : Str → Option Value} {base : Heap} {σ : L2.St} {H H' : Hp} {p c : Addr} {n : Nat} {v : V} {d : PyData}
def sp_whole_any (K : PySem.W.Frag) : Sp := spX (fun (z : (Addr × Addr) × PyData) vs H => (fun (p c : Addr) (d : PyData) => ∃ v, vs = [v] ∧ Dz K p c H v d) z.1.1 z.1.2 z.2) (fun z v H => (fun (d : PyData) => v = .bl (wholeB d)) z.2)
theorem c_whole_any (T : Txt mg) (D : Df K mg "is_whole" s_is_whole ["thing"]) : Cl P w K mg base 1 "is_whole" (sp_whole_any K) := by
  refine cl_of (k := 0) D sc_is_whole (fun vs H Q E h => ?_) (fun f cdv A outer s H vs Q E hr h => ?_)
  · obtain ⟨d, ⟨v, rfl, _⟩, _⟩ := h
    rfl
  · obtain ⟨⟨⟨p, c⟩, d⟩, ⟨v, rfl, hv⟩, q⟩ := h
    refine ⟨_, (pss_one (ps_ret (pe_and (pe_callB call_isi (by rfl) T.z_isinstance (by decide +kernel) (pa_cons (pv 0) (pa_cons (pe_ty "int" (by rfl) T.z_int (by decide +kernel)) pa_nil))) (pe_one (pe_not (pe_callB call_isi (by rfl) T.z_isinstance (by decide +kernel) (pa_cons (pv 0) (pa_cons (pe_ty "bool" (by rfl) T.z_bool (by decide +kernel)) pa_nil)))))))), ?_⟩
    exact s_ret (ev_isIntB (K := K) (ev_var rfl) ev_c (ev_var rfl) ev_c hv) fun H1 e1 => q _ H1 e1 rfl
theorem whole_int (h : Dz K p c H v d) (w : wholeB d = true) : ∃ i, v = .int i ∧ d = .int i := by
  cases h with
  | int i => exact ⟨i, rfl, rfl⟩
  | non => cases w
  | bl b => cases w
  | str z => cases w
  | lst _ _ _ _ => cases w
  | tup _ _ => cases w
def sp_below_any (K : PySem.W.Frag) : Sp := spX (fun (z : (Addr × Addr) × PyData × Int) vs H => (fun (p c : Addr) (q : PyData × Int) => ∃ v, vs = [v, .int q.2] ∧ Dz K p c H v q.1) z.1.1 z.1.2 z.2) (fun z v H => (fun (q : PyData × Int) => v = .bl (belowB q.2 q.1)) z.2)
theorem c_below_any (T : Txt mg) (D : Df K mg "is_below" s_is_below ["thing", "size"]) (c_whole_any : Cl P w K mg base 1 "is_whole" (sp_whole_any K)) : Cl P w K mg base 2 "is_below" (sp_below_any K) := by
  refine cl_of (k := 1) D sc_is_below (fun vs H Q E h => ?_) (fun f cdv A outer s H vs Q E hr h => ?_)
  · obtain ⟨d, ⟨v, rfl, _⟩, _⟩ := h
    rfl
  · obtain ⟨⟨⟨p, c⟩, d, n⟩, ⟨v, rfl, hv⟩, q⟩ := h
    have c_is_whole := c_whole_any
    refine ⟨_, (pss_one (ps_ret (pe_and (pe_cl c_is_whole hr (by first | decide | omega) (by rfl) (pa_cons (pv 0) pa_nil)) (pe_one (pe_chain op_le op_lt pe_int (pv 0) (pv 1)))))), ?_⟩
    replace hv : Dz K p c H v d := hv
    replace q : ∀ r H', Ex H H' → r = .bl (belowB n d) → Q r H' := q
    by_cases hw : wholeB d = true
    · obtain ⟨i, rfl, rfl⟩ := whole_int hv hw
      refine s_ret (ev_andV (a := true) (b := belowB n (.int i)) (ev_callV (v := .bl true) ((p, c), PyData.int i) (ea_cons (ev_var rfl) ea_nil) (fun H1 e1 => ⟨_, rfl, .int i⟩) (fun _ _ z => z.trans rfl)) (fun _ => ev_chain ev_c (ev_var rfl) (fun _ => ev_var rfl) rv_I0 (fun _ => rv_I0))) fun H1 e1 => q _ H1 e1 rfl
    · have hw2 : wholeB d = false := by simpa using hw
      refine s_ret (ev_andV (a := false) (b := false) (ev_callV (v := .bl false) ((p, c), d) (ea_cons (ev_var rfl) ea_nil) (fun H1 e1 => ⟨_, rfl, hv.ex e1⟩) (fun _ _ z => by rw [z, hw2])) (fun z => by cases z)) fun H1 e1 => q _ H1 e1 ?_
      cases d <;> first | rfl | cases hw2
def sp_name_any (K : PySem.W.Frag) : Sp := spX (fun (z : (Addr × Addr) × PyData) vs H => (fun (p c : Addr) (d : PyData) => (∃ v, vs = [v] ∧ Dz K p c H v d) ∧ Gb 50 100000 d) z.1.1 z.1.2 z.2) (fun z v H => (fun (d : PyData) => v = .bl (nameB d)) z.2)
theorem c_name_any (T : Txt mg) (D : Df K mg "is_name" s_is_name ["thing"]) : Cl P w K mg base 1 "is_name" (sp_name_any K) := by
  refine cl_of (k := 0) D sc_is_name (fun vs H Q E h => ?_) (fun f cdv A outer s H vs Q E hr h => ?_)
  · obtain ⟨d, ⟨⟨v, rfl, _⟩, _⟩, _⟩ := h
    rfl
  · obtain ⟨⟨⟨p, c⟩, d⟩, ⟨⟨v, rfl, hv⟩, wd⟩, q⟩ := h
    refine ⟨_, (pss_cons (ps_if (PW.pt (pw_or (pt_not (pt_val (pe_callB call_isi (by rfl) T.z_isinstance (by decide +kernel) (pa_cons (pv 0) (pa_cons (pe_ty "str" (by rfl) T.z_str (by decide +kernel)) pa_nil))))) (pw_or1 (pt_not (pt_chain op_le op_le pe_int (pe_callB call_len_str (by rfl) T.z_len PySem.boot_len (pa_cons (pv 0) pa_nil)) (pe_gi (by rfl) T.c_MOST_NAME))))))
        (pss_one (ps_ret pe_bl))
        pss_nil)
      (pss_one (ps_ret (pe_callB (cr_all rfl) (by rfl) T.z_all (by decide +kernel) (pa_cons (pe_lc (own := [("sign", 1)]) (g := (gName 1)) (by rfl) sc_is_name.nd (pi_str (pv 0)) (blkOk_by (own := [("sign", 1)]) (N := ["thing", "sign"]) (sc := (defScope s_is_name)) (by decide +kernel)) (fun _ _ _ _ _ => (pg_name (i := 1) sc_is_name.nd rfl (.inl rfl))) (fun _ _ _ _ _ => pts_nil) (fun _ _ _ _ _ => (pe_cmpR op_in_sign (pv 1) (pe_gs (by rfl) T.c_NAME_LETTERS) (by rfl)))) pa_nil))))), ?_⟩
    replace hv : Dz K p c H v d := hv
    replace q : ∀ r H', Ex H H' → r = .bl (nameB d) → Q r H' := q
    by_cases hs : isStr d = true
    · cases hv with
      | str z =>
        have hsz : z.cps.size = z.length := rfl
        replace wd := wd.wgt
        rw [PyData.weight] at wd
        have big : z.length ≤ 100000 := wd
        refine q_when (b := !(decide (1 ≤ z.length) && decide (z.length ≤ 4))) (et_is (et_or (a := false) (b := !(decide (1 ≤ z.length) && decide (z.length ≤ 4))) (et_is (et_not (et_val (ev_isStr (K := K) (ev_var rfl) ev_c (.str (p := p) (c := c) z)))) rfl) (fun _ => et_is (et_not (et_test (ev_chain ev_c (ev_lenS (ev_var rfl) big) (fun _ => ev_c) rv_I0 (fun _ => rv_I0)))) ?_)) (by rw [Bool.false_or])) (fun hb H1 e1 => ?_) (fun hb H1 e1 => ?_)
        · show (!(decide ((1 : Int) ≤ (z.length : Int)) && decide ((z.length : Int) ≤ 4))) = _
          congr 2 <;> (rw [decide_eq_decide]; omega)
        · refine s_ret (v := .bl false) ev_c fun H2 e2 => q _ H2 (e1.trans e2) ?_
          rw [nameB]
          rw [Bool.not_eq_true'] at hb
          rw [hb, Bool.false_and]
        · rw [Bool.not_eq_false'] at hb
          refine s_ret (ev_all (bs := z.cps.toList.map inL) ?_) fun H2 e2 => q _ H2 (e1.trans e2) ?_
          · have e : (z.cps.toList.map inL).map V.bl = (List.range z.cps.size).map (fun i => V.bl (inL (z.cps.toList.getD i 0))) := by
              apply List.ext_getElem?
              intro i
              by_cases hi : i < z.cps.size
              · rw [List.getElem?_map, List.getElem?_map, List.getElem?_map, List.getElem?_range hi]
                show Option.map V.bl (Option.map inL z.cps.toList[i]?) = some (V.bl (inL (z.cps.toList.getD i 0)))
                rw [List.getD_eq_getElem?_getD, List.getElem?_eq_getElem (by rw [Array.length_toList]; exact hi)]
                rfl
              · rw [List.getElem?_eq_none (by simp; omega), List.getElem?_eq_none (by simp; omega)]
            rw [e]
            rw [Bool.and_eq_true, decide_eq_true_eq, decide_eq_true_eq] at hb
            refine el_lcS (ev_var rfl) _ (by omega) (fun _ => rfl) (fun i x H2 e2 hc => ?_)
            refine ev_op (ev_var rfl) ev_c ?_
            have hg : z.cps.toList.getD i 0 = x := by
              rw [List.getD_eq_getElem?_getD, Array.getElem?_toList, hc]
              rfl
            exact fun H3 _ Q q3 => ⟨x, letters, rfl, rfl, by rw [hg] at q3; exact q3 H3 (Ex.refl H3)⟩
          · show V.bl ((z.cps.toList.map inL).all id) = V.bl (nameB (.str z))
            rw [nameB, hb, Bool.true_and, List.all_map]
            rfl
      | non => cases hs
      | bl b => cases hs
      | int i => cases hs
      | lst _ _ _ _ => cases hs
      | tup _ _ => cases hs
    · have hs2 : isStr d = false := by simpa using hs
      refine q_when (b := true) (et_is (et_or (a := true) (b := false) (et_is (et_not (et_val (ev_isStr (K := K) (ev_var rfl) ev_c hv))) (by rw [hs2]; rfl)) (fun z => by cases z)) rfl) (fun _ H1 e1 => ?_) (fun hb => by cases hb)
      refine s_ret (v := .bl false) ev_c fun H2 e2 => q _ H2 (e1.trans e2) ?_
      cases d <;> first | rfl | cases hs2
end
end K24
end
section
namespace K24
open PySem PySem.Spec PyProof.Rows L2 Evl RZ Dw M20
section
variable {K : PySem.W.Frag} {σ : L2.St} {H : Hp} {ta tb te : TE} {v : V}
theorem do_test2 {r : R2} {ta tb : TE} {Q : Bool → Hp → Prop} (h : ta σ H fun x H1 => tb σ H1 fun y H2 => r x y H2 fun z H3 => ∃ k, z = .bl k ∧ Q k H3) : tTest (tOp r ta tb) σ H Q := h
theorem inV_str (x : Str) : ∀ ks : List Str, inV (.str x) (ks.map V.str) = decide (x ∈ ks)
  | [] => rfl
  | k :: ks => by
    have ih := inV_str x ks
    unfold inV at ih ⊢
    rw [List.map_cons, List.any_cons, ih]
    have e : eqV (V.str k) (V.str x) = decide (x = k) := by
      by_cases h : x = k
      · subst h
        simp [eqV]
      · have h2 : ¬ k = x := fun z => h z.symm
        simp [eqV, h, h2]
    rw [e]
    by_cases h : x = k <;> simp [h]
theorem flat_all : ∀ ks : List Str, (ks.map V.str).all flatV = true
  | [] => rfl
  | k :: ks => by
    rw [List.map_cons, List.all_cons, flat_all ks]
    rfl
theorem two_of {α : Type} {r : List α} (l : r.length = 2) : ∃ x y, r = [x, y] := by
  match r, l with
  | [x, y], _ => exact ⟨x, y, rfl⟩
theorem do_try {W0 : Ends → WX} {sp : Sp} {ta : TA} {tz : TS} {D : Ends} (h : ta σ H fun vs H1 => sp vs H1 (fun _ H2 => tz D σ H2) (WE (W0 { D with nx := tz D }) σ)) : tSeq (fun D σ H => tDrop (tCallS sp (fun σ => WE (W0 D) σ) ta) D σ H) tz D σ H := h
theorem do_callS {sp : Sp} {E : L2.St → XK} {ta : TA} {D : Ends} (h : ta σ H fun vs H1 => sp vs H1 (fun _ H2 => D.nx σ H2) (E σ)) : tDrop (tCallS sp E ta) D σ H := h
theorem et_isNP {ta : TE} (h : EvP ta σ H fun v _ => ∃ a, v = .ref a) : EvT (tTest (tOp (fun x y H Q => y = .non ∧ Q (.bl (!decide (x = .non))) H) ta (tC .non))) σ H true := fun H1 e Q q => h H1 e _ fun v H2 e2 ⟨a, hv⟩ => by
  subst hv
  exact ⟨rfl, _, rfl, q H2 e2⟩
theorem et_isNone {ta : TE} {x : V} (h : Ev ta σ H x) : EvT (tTest (tOp (fun x y H Q => y = .non ∧ Q (.bl (decide (x = .non))) H) ta (tC .non))) σ H (decide (x = .non)) := fun H1 e1 Q q => do_test2 (h H1 e1 _ fun H2 e2 => ⟨rfl, _, rfl, q H2 e2⟩)
theorem do_ifX {b : Bool} {Q : VK} {tt : TT} {ta tb : TE} (h : EvT tt σ H b) (h1 : b = true → ∀ H1, Ex H H1 → ta σ H1 Q) (h2 : b = false → ∀ H1, Ex H H1 → tb σ H1 Q) : tIf tt ta tb σ H Q := by
  refine h H (Ex.refl _) _ fun H1 e1 => ?_
  cases b with
  | true => exact h1 rfl H1 e1
  | false => exact h2 rfl H1 e1
end
end K24
end
section
namespace K24
open PySem PySem.Spec PyProof.Rows L2 Evl RZ Dw M20
theorem weight_mem : ∀ {ds : List PyData} {d : PyData}, d ∈ ds → d.weight ≤ PyData.weightAll ds
  | [], d, h => by cases h
  | x :: ds, d, h => by
    rw [PyData.weightAll]
    rcases List.mem_cons.mp h with e | e
    · rw [e]
      omega
    · have := weight_mem e
      omega
theorem lay_mem : ∀ {ds : List PyData} {d : PyData}, d ∈ ds → (PyData.canLayAll0 ds = true → d.canLay0 = true) ∧ d.depth ≤ PyData.depthAll ds ∧ (PyData.intsShortAll 40 ds = true → d.intsShort 40 = true) ∧ (PyData.showableAll ds = true → d.showable = true)
  | [], d, h => by cases h
  | x :: ds, d, h => by
    rw [PyData.canLayAll0, PyData.depthAll, PyData.intsShortAll, PyData.showableAll, Bool.and_eq_true, Bool.and_eq_true, Bool.and_eq_true]
    rcases List.mem_cons.mp h with e | e
    · rw [e]
      exact ⟨fun z => z.1, Nat.le_max_left _ _, fun z => z.1, fun z => z.1⟩
    · obtain ⟨a, b, c, f⟩ := lay_mem e
      exact ⟨fun z => a z.2, Nat.le_trans b (Nat.le_max_right _ _), fun z => c z.2, fun z => f z.2⟩
theorem gb_mem {k W : Nat} {ds : List PyData} {d : PyData} (g : Gb k W (.tuple ds)) (h : d ∈ ds) : Gb k W d := by
  obtain ⟨a, b, c, f⟩ := lay_mem h
  have g1 := g.lay
  have g2 := g.dep
  have g3 := g.wgt
  have g4 := g.its
  have g5 := g.sho
  rw [PyData.canLay0] at g1
  rw [PyData.depth] at g2
  rw [PyData.weight] at g3
  rw [PyData.intsShort] at g4
  rw [PyData.showable] at g5
  exact ⟨a g1, by omega, Nat.le_trans (weight_mem h) g3, c g4, f g5⟩
theorem weight_len : ∀ ds : List PyData, ds.length ≤ PyData.weightAll ds
  | [] => Nat.zero_le _
  | x :: ds => by
    have := weight_len ds
    rw [PyData.weightAll, List.length_cons]
    omega
theorem oddK_first {ds : List PyData} {i : Nat} (hi : i < ds.length) (h0 : ∀ j, j < i → deedB (ds.getD j .none) = true) (h1 : deedB (ds.getD i .none) = false) : ∃ r, oddK ds = i :: r := filt_first hi (fun j hj => by rw [h0 j hj]; rfl) (by rw [h1]; rfl)
theorem oddK_none {ds : List PyData} (h0 : ∀ j, j < ds.length → deedB (ds.getD j .none) = true) : oddK ds = [] := filt_none (fun j hj => by rw [h0 j hj]; rfl)
section
variable {P : Program} {w : World} {K : PySem.W.Frag} {mg : Str → Option Value} {base : Heap} {σ : L2.St} {H H' : Hp} {p c : Addr} {n : Nat} {v : V} {d : PyData} {P0 B0 T0 G0 S0 : Addr}
theorem ev_len2 {t : TE} {a : Addr} {xs : List V} (h : Ev t σ H (.ref a)) (s : SqT K H a xs) : Ev (tOp rEq (tCB (rLenS K) (tCons t tNil)) (tC (.int 2))) σ H (.bl (decide (xs.length = 2))) := ev_is (ev_op (ev_lenT h s) ev_c (rv_eq rfl)) (by
  show V.bl (decide (V.int (xs.length : Int) = V.int 2)) = _
  congr 1
  rw [decide_eq_decide]
  exact ⟨fun y => by injection y with y; omega, fun y => by rw [y]; rfl⟩)
def sp_deed_any (K : PySem.W.Frag) : Sp := spX (fun (z : (Addr × Addr) × PyData) vs H => (fun (p c : Addr) (d : PyData) => (∃ v, vs = [v] ∧ Dz K p c H v d) ∧ Gb 50 100000 d) z.1.1 z.1.2 z.2) (fun z v H => (fun (d : PyData) => v = .bl (deedB d)) z.2)
theorem c_deed_any (T : Txt mg) (D : Df K mg "is_deed" s_is_deed ["thing"]) (c_name_any : Cl P w K mg base 1 "is_name" (sp_name_any K)) (c_below_any : Cl P w K mg base 2 "is_below" (sp_below_any K)) : Cl P w K mg base 3 "is_deed" (sp_deed_any K) := by
  refine cl_of (k := 2) D sc_is_deed (fun vs H Q E h => ?_) (fun f cdv A outer s H vs Q E hr h => ?_)
  · obtain ⟨d, ⟨⟨v, rfl, _⟩, _⟩, _⟩ := h
    rfl
  · obtain ⟨⟨⟨p, c⟩, d⟩, ⟨⟨v, rfl, hv⟩, wd⟩, q⟩ := h
    have c_is_name := c_name_any
    have c_is_below := c_below_any
    refine ⟨_, (pss_one (ps_ret (pe_and (pe_callB call_isi (by rfl) T.z_isinstance (by decide +kernel) (pa_cons (pv 0) (pa_cons (pe_ty "tuple" (by rfl) T.z_tuple (by decide +kernel)) pa_nil))) (pe_and (pe_cmpR op_eq (pe_callB call_len_seq (by rfl) T.z_len PySem.boot_len (pa_cons (pv 0) pa_nil)) pe_int (nomark _)) (pe_and (pe_cl c_is_name hr (by first | decide | omega) (by rfl) (pa_cons (pe_ix ix_tup (pv 0) pe_int (fun _ _ => rfl)) pa_nil)) (pe_one (pe_cl c_is_below hr (by first | decide | omega) (by rfl) (pa_cons (pe_ix ix_tup (pv 0) pe_int (fun _ _ => rfl)) (pa_cons (pe_op op_add (pe_gi (by rfl) T.c_MOST_PLACES) pe_int) pa_nil))))))))), ?_⟩
    replace hv : Dz K p c H v d := hv
    replace wd : Gb 50 100000 d := wd
    replace q : ∀ r H', Ex H H' → r = .bl (deedB d) → Q r H' := q
    by_cases hs : isTup d = true
    · cases hv with
      | @tup a xs ds h r =>
        have isT := ev_isTup (K := K) (p := p) (c := c) (ta := tVar 0) (tb := tC (.ty "tuple")) (σ := [some (V.ref a)]) (H := H) (ev_var rfl) ev_c (.tup h r)
        have lx := r.len
        by_cases l2 : xs.length = 2
        · cases r with
          | nil => cases l2
          | @cons x xs x' ds hx r =>
            cases r with
            | nil => cases l2
            | @cons y xs y' ds hy r =>
              cases r with
              | cons _ _ =>
                simp at l2
              | nil =>
                refine s_ret (ev_andV (a := true) (b := true && (nameB x' && belowB 3 y')) isT (fun _ => ev_andV (a := true) (b := nameB x' && belowB 3 y') (ev_len2 (K := K) (ev_var rfl) h) (fun _ =>
                  ev_andV (ev_callV (v := .bl (nameB x')) ((p, c), x') (ea_cons (ev_op (ev_var rfl) ev_c (rv_ixT (K := K) h (atI_vi (k := 0) rfl))) ea_nil) (fun _ e => ⟨⟨_, rfl, hx.ex e⟩, gb_mem wd (List.mem_cons_self ..)⟩) (fun _ _ z => z)) (fun _ =>
                  ev_callV (v := .bl (belowB 3 y')) ((p, c), y', (3 : Int)) (ea_cons (ev_op (ev_var rfl) ev_c (rv_ixT (K := K) h (atI_vi (k := 1) rfl))) (ea_cons (ev_op ev_c ev_c rv_I0) ea_nil)) (fun _ e => ⟨_, rfl, hy.ex e⟩) (fun _ _ z => z))))) fun H1 e => q _ H1 e ?_
                rw [deedB, Bool.true_and, Bool.true_and]
        · refine s_ret (ev_andV (a := true) (b := false) isT (fun _ => ev_andV (a := false) (b := false) (ev_is (ev_len2 (K := K) (ev_var rfl) h) (by rw [decide_eq_false l2])) (fun z => by cases z))) fun H1 e => q _ H1 e ?_
          have : deedB (.tuple ds) = false := by
            match ds, lx with
            | [], _ => rfl
            | [_], _ => rfl
            | [_, _], lx => exact absurd lx l2
            | _ :: _ :: _ :: _, _ => rfl
          rw [this]
          rfl
      | non => cases hs
      | bl b => cases hs
      | int i => cases hs
      | str z => cases hs
      | lst _ _ _ _ => cases hs
    · have hs2 : isTup d = false := by simpa using hs
      refine s_ret (ev_andV (a := false) (b := false) (ev_is (ev_isTup (K := K) (ev_var rfl) ev_c hv) (by rw [hs2])) (fun z => by cases z)) fun H1 e => q _ H1 e ?_
      cases d <;> first | rfl | cases hs2
theorem tup_of (h : Dz K p c H v d) (hs : isTup d = true) : ∃ a us ds, v = .ref a ∧ d = .tuple ds ∧ SqT K H a us ∧ DzAll K p c H us ds := by
  cases h with
  | @tup a us ds hS r => exact ⟨a, us, ds, rfl, rfl, hS, r⟩
  | non => cases hs
  | bl b => cases hs
  | int i => cases hs
  | str z => cases hs
  | lst _ _ _ _ => cases hs
def sp_sig_any (K : PySem.W.Frag) : Sp := spX (fun (z : (Addr × Addr) × PyData) vs H => (fun (p c : Addr) (d : PyData) => (∃ v, vs = [v] ∧ Dz K p c H v d) ∧ Gb 50 100000 d) z.1.1 z.1.2 z.2) (fun z v H => (fun (d : PyData) => Dp K H v (sigW d)) z.2)
theorem deedB_name {d : PyData} (h : deedB d = true) (hv : Dz K p c H v d) : ∃ (a : Addr) (z : Str) (y : V), v = .ref a ∧ SqT K H a [.str z, y] ∧ nameOf d = z := by
  cases hv with
  | @tup a xs ds h1 r =>
    cases r with
    | nil => cases h
    | @cons x xs x' ds hx r =>
      cases r with
      | nil => cases h
      | @cons y xs y' ds hy r =>
        cases r with
        | cons _ _ => cases h
        | nil =>
          rw [deedB, Bool.and_eq_true] at h
          cases hx with
          | str z => exact ⟨a, z, y, rfl, h1, rfl⟩
          | non => cases h.1
          | bl b => cases h.1
          | int i => cases h.1
          | lst _ _ _ _ => cases h.1
          | tup _ _ => cases h.1
  | non => cases h
  | bl b => cases h
  | int i => cases h
  | str z => cases h
  | lst _ _ _ _ => cases h
theorem c_sig_any (T : Txt mg) (D : Df K mg "signature_wrong" s_signature_wrong ["thing"]) (c_deed_any : Cl P w K mg base 3 "is_deed" (sp_deed_any K)) : Cl P w K mg base 4 "signature_wrong" (sp_sig_any K) := by
  refine cl_of (k := 3) D sc_signature_wrong (fun vs H Q E h => ?_) (fun f cdv A outer s H vs Q E hr h => ?_)
  · obtain ⟨d, ⟨⟨v, rfl, _⟩, _⟩, _⟩ := h
    rfl
  · obtain ⟨⟨⟨p, c⟩, d⟩, ⟨⟨v, rfl, hv⟩, wd⟩, q⟩ := h
    have c_is_deed := c_deed_any
    refine ⟨_, (pss_cons (ps_if (PW.pt (pw_or (pt_not (pt_val (pe_callB call_isi (by rfl) T.z_isinstance (by decide +kernel) (pa_cons (pv 0) (pa_cons (pe_ty "tuple" (by rfl) T.z_tuple (by decide +kernel)) pa_nil))))) (pw_or1 (pt_not (pt_chain op_le op_le pe_int (pe_callB call_len_seq (by rfl) T.z_len PySem.boot_len (pa_cons (pv 0) pa_nil)) (pe_gi (by rfl) T.c_MOST_DEEDS))))))
        (pss_one (ps_ret (pe_tup (pa_cons pe_str pa_nil))))
        pss_nil)
      (pss_cons (ps_for PassesOwn.never (by rfl) (pi_enumT (by rfl) T.z_enumerate (pa_cons (pv 0) pa_nil)) (pg_tup (by rfl) (pgs_cons (pg_name (i := 1) sc_signature_wrong.nd rfl (.inl rfl)) (pgs_cons (pg_name (i := 2) sc_signature_wrong.nd rfl (.inl rfl)) pgs_nil)))
        (pss_one (ps_if (pt_not (pt_val (pe_cl c_is_deed hr (by first | decide | omega) (by rfl) (pa_cons (pv 2) pa_nil))))
          (pss_one (ps_ret (pe_tup (pa_cons pe_str (pa_cons (pv 1) pa_nil)))))
          pss_nil)))
      (pss_cons (ps_setLc (i := 3) (own := [("deed", 2)]) (g := (gName 2)) (by rfl) sc_signature_wrong.nd rfl rfl (sw_true rfl rfl rfl (by decide +kernel)) (pi_tup (pv 0)) (blkOk_by (own := [("deed", 2)]) (N := ["thing", "k", "deed", "names", "name"]) (sc := (defScope s_signature_wrong)) (by decide +kernel)) (fun _ _ _ _ _ => (pg_name (i := 2) sc_signature_wrong.nd rfl (.inl rfl))) (fun _ _ _ _ _ => pts_nil) (fun _ _ _ _ _ => (pe_ix (ix_tupK K) (pv 2) pe_int (fun _ _ => rfl))))
      (pss_cons (ps_for PassesOwn.never (by rfl) (pi_enum (by rfl) T.z_enumerate (pa_cons (pv 3) pa_nil)) (pg_tup (by rfl) (pgs_cons (pg_name (i := 1) sc_signature_wrong.nd rfl (.inl rfl)) (pgs_cons (pg_name (i := 4) sc_signature_wrong.nd rfl (.inl rfl)) pgs_nil)))
        (pss_one (ps_if (pt_cmpR op_in_seq (pv 4) (pe_slice sl_list (pv 3) po_none (po_some (pv 1))) (by rfl))
          (pss_one (ps_ret (pe_tup (pa_cons pe_str (pa_cons (pv 1) pa_nil)))))
          pss_nil)))
      (pss_one (ps_ret pe_non)))))), ?_⟩
    replace hv : Dz K p c H v d := hv
    replace wd : Gb 50 100000 d := wd
    replace q : ∀ r H', Ex H H' → Dp K H' r (sigW d) → Q r H' := q
    have none1 : ∀ {v0 : V} {H1 : Hp}, Ex H H1 → sigW d = .tuple [.str "signature"] → tRet (tTup (tCons (tC (.str "signature")) tNil)) { nx := fun _ H' => Q .non H', rt := Q } [some v0, none, none, none, none] H1 := fun {v0 H1} e1 hw => s_retU (eu_tup (ea_cons ev_c ea_nil) (by show 1 ≤ 100000; decide)) fun r H2 _ e2 hr2 => q _ H2 (e1.trans e2) (by rw [hw]; exact .tup (st_of hr2) (.cons (.str _) .nil))
    by_cases hs2 : isTup d = false
    · exact q_when (b := true) (et_is (et_or (a := true) (b := false) (et_is (et_not (et_val (ev_isTup (K := K) (ev_var rfl) ev_c hv))) (by rw [hs2]; rfl)) (fun z => by cases z)) rfl) (fun _ H1 e1 => none1 e1 (by cases d <;> first | rfl | cases hs2)) (fun hb => by cases hb)
    have hs : isTup d = true := by simpa using hs2
    obtain ⟨a, us, ds, rfl, rfl, hS, r⟩ := tup_of hv hs
    have hl : us.length = ds.length := r.len
    have wt := wd.wgt
    rw [PyData.weight] at wt
    have wl := weight_len ds
    have fst : EvT (tOr (tNot (tB (tCB (rIsi K) (tCons (tVar 0) (tCons (tC (.ty "tuple")) tNil))))) (tNot (tTest (tChain (rI0 fun i j => .bl (decide (i ≤ j))) (rI0 fun i j => .bl (decide (i ≤ j))) (tC (.int 1)) (tCB (rLenS K) (tCons (tVar 0) tNil)) (tC (.int 4)))))) [some (V.ref a), none, none, none, none] H (!(decide (1 ≤ ds.length) && decide (ds.length ≤ 4))) := et_is (et_or (a := false) (b := !(decide (1 ≤ ds.length) && decide (ds.length ≤ 4))) (et_is (et_not (et_val (ev_isTup (K := K) (p := p) (c := c) (ev_var rfl) ev_c (.tup hS r)))) rfl) (fun _ => et_is (et_not (et_test (ev_chain ev_c (ev_lenT (ev_var rfl) hS) (fun _ => ev_c) rv_I0 (fun _ => rv_I0)))) (by
      show (!(decide ((1 : Int) ≤ (us.length : Int)) && decide ((us.length : Int) ≤ 4))) = _
      congr 2 <;> (rw [decide_eq_decide]; omega)))) (by rw [Bool.false_or])
    refine q_when fst (fun hb H1 e1 => none1 e1 ?_) (fun hb H1 e1 => ?_)
    · rw [Bool.not_eq_true'] at hb
      rw [sigW, if_neg]
      intro hh
      rw [decide_eq_true hh.1, decide_eq_true hh.2] at hb
      cases hb
    rw [Bool.not_eq_false', Bool.and_eq_true, decide_eq_true_eq, decide_eq_true_eq] at hb
    -- each is a deed
    refine q_enumT (K := K) (ea_cons (ev_var rfl) ea_nil) (ex_t e1 hS) (fun i σ H' => Ex H H' ∧ (∀ j, j < i → deedB (ds.getD j .none) = true) ∧ ∃ y1 y2, σ = [some (.ref a), y1, y2, none, none]) (fun H2 e2 => ⟨e1.trans e2, fun j hj => absurd hj (Nat.not_lt_zero _), none, none, rfl⟩) (fun i σ H' _ ⟨e, _⟩ => ex_t e hS) (fun i x σ H2 H3 hx ⟨e, good, y1, y2, hσ⟩ e3 => ?_) (fun σ H2 ⟨e2, good, y1, y2, hσ⟩ => ?_)
    · subst hσ
      have hi : i < ds.length := by rw [← hl]; exact (List.getElem?_eq_some_iff.mp hx).1
      obtain ⟨x', ex', dx⟩ := r.get hx
      have gd : ds.getD i .none = x' := by rw [List.getD_eq_getElem?_getD, ex']; rfl
      have e03 : Ex H H3 := e.trans e3
      have wx : Gb 50 100000 x' := gb_mem wd (List.mem_of_getElem? ex')
      refine s_when (b := !deedB x') (et_not (et_val (ev_callV (v := .bl (deedB x')) ((p, c), x') (ea_cons (ev_var rfl) ea_nil) (fun H4 e4 => ⟨⟨_, rfl, dx.ex (e03.trans e4)⟩, wx⟩) (fun _ _ z => z)))) (fun hb2 H4 e4 => ?_) (fun hb2 H4 e4 => ⟨e03.trans e4, fun j hj => ?_, _, _, rfl⟩)
      · rw [Bool.not_eq_true'] at hb2
        refine s_retU (eu_tup (vs := [.str "deed", vi i]) (ea_cons ev_c (ea_cons (ev_var rfl) ea_nil)) (by show 2 ≤ 100000; decide)) fun r2 H5 _ e5 hr5 => q _ H5 ((e03.trans e4).trans e5) ?_
        obtain ⟨rr, hrr⟩ := oddK_first hi good (by rw [gd]; exact hb2)
        rw [sigW, if_pos hb, hrr]
        exact .tup (st_of hr5) (.cons (.str _) (.cons (.int _) .nil))
      · rw [Bool.not_eq_false'] at hb2
        by_cases z : j < i
        · exact good j z
        · rw [show j = i by omega, gd]
          exact hb2
    · subst hσ
      rw [hl] at good
      have none2 := oddK_none good
      -- the names
      have names : EvL (tLc (iTup K (tVar 0)) (gName 2) tYes (tOp (rIxT K) (tVar 2) (tC (.int 0))) [2]) [some (.ref a), y1, y2, none, none] H2 ((List.range us.length).map fun i => .str (nameOf (ds.getD i .none))) := by
        refine el_lcT (ev_var rfl) (ex_t e2 hS) _ (by omega) (fun _ => rfl) (fun i x H3 e3 hx => ?_)
        have hi : i < ds.length := by rw [← hl]; exact (List.getElem?_eq_some_iff.mp hx).1
        obtain ⟨x', ex', dx⟩ := r.get hx
        have gd : ds.getD i .none = x' := by rw [List.getD_eq_getElem?_getD, ex']; rfl
        obtain ⟨ca, z, y, rfl, s1, nz⟩ := deedB_name (by rw [← gd]; exact good i hi) (dx.ex (e2.trans e3))
        rw [gd, nz]
        exact ev_op (ev_var rfl) ev_c (rv_ixT (K := K) s1 (atI_vi (k := 0) rfl))
      rw [hl] at names
      have eN : ((List.range ds.length).map fun i => V.str (nameOf (ds.getD i .none))) = (ds.map nameOf).map V.str := by
        apply List.ext_getElem?
        intro i
        by_cases hi : i < ds.length
        · rw [List.getElem?_map, List.getElem?_range hi, List.getElem?_map, List.getElem?_map, List.getElem?_eq_getElem hi]
          show some (V.str (nameOf (ds.getD i .none))) = some (V.str (nameOf ds[i]))
          rw [List.getD_eq_getElem?_getD, List.getElem?_eq_getElem hi]
          rfl
        · rw [List.getElem?_eq_none_iff.mpr (by simp; omega), List.getElem?_eq_none_iff.mpr (by simp; omega)]
      rw [eN] at names
      obtain ⟨ns, hns⟩ : ∃ ns, ns = ds.map nameOf := ⟨_, rfl⟩
      rw [← hns] at names
      have ln : ns.length = ds.length := by rw [hns, List.length_map]
      refine q_asgL names fun pl H3 np e3 hp => ?_
      have e03 : Ex H H3 := e2.trans e3
      refine q_enumL (K := K) (ea_cons (ev_var rfl) ea_nil) (sq_of hp) (fun i σ H' => Ex H3 H' ∧ (∀ j, j < i → decide (ns.getD j "" ∈ ns.take j) = false) ∧ ∃ z1 z4, σ = [some (.ref a), z1, y2, some (.ref pl), z4]) (fun H4 e4 => ⟨e4, fun j hj => absurd hj (Nat.not_lt_zero _), _, _, rfl⟩) (fun i σ H' _ ⟨e, _⟩ => ex_l e (sq_of hp)) (fun i x σ H4 H5 hx ⟨e4, good2, z1, z4, hσ⟩ e5 => ?_) (fun σ H4 ⟨e4, good2, z1, z4, hσ⟩ => ?_)
      · subst hσ
        have hi : i < ns.length := by simpa using (List.getElem?_eq_some_iff.mp hx).1
        have ex : x = .str ns[i] := by
          rw [List.getElem?_map, List.getElem?_eq_getElem hi] at hx
          exact (Option.some.inj hx).symm
        subst ex
        have gd : ns.getD i "" = ns[i] := by rw [List.getD_eq_getElem?_getD, List.getElem?_eq_getElem hi]; rfl
        have cut : cutV (ns.map V.str) none (some (i : Int)) = (ns.take i).map V.str := by
          unfold cutV
          rw [HT.sIx_none, HT.sIx_nat, List.length_map, Nat.sub_zero, List.drop_zero, ← List.map_take, Nat.min_eq_left (Nat.le_of_lt hi)]
        have eL : Ex H3 H5 := e4.trans e5
        have sl : EvL (tSl (rSlL K) (tVar 3) tNoPart (tPart (tVar 1))) [some (.ref a), some (vi i), y2, some (.ref pl), some (.str ns[i])] H5 ((ns.take i).map V.str) := by
          rw [← cut]
          exact el_sl (ev_var rfl) eo_none (eo_some (ev_var rfl)) (ex_l eL (sq_of hp))
        refine s_when (b := decide (ns[i] ∈ ns.take i)) (et_is (et_test (ev_opL (ev_var rfl) sl (fun r H6 hr6 _ => rv_isL (sq_of hr6) rfl (flat_all _)))) (inV_str ..)) (fun hb2 H6 e6 => ?_) (fun hb2 H6 e6 => ⟨eL.trans e6, fun j hj => ?_, _, _, rfl⟩)
        · refine s_retU (eu_tup (vs := [.str "twice", vi i]) (ea_cons ev_c (ea_cons (ev_var rfl) ea_nil)) (by show 2 ≤ 100000; decide)) fun r2 H7 _ e7 hr7 => q _ H7 ((e03.trans (eL.trans e6)).trans e7) ?_
          obtain ⟨rr, hrr⟩ : ∃ r, twiceK ns = i :: r := filt_first (by omega) good2 (by rw [gd]; exact hb2)
          rw [sigW, if_pos hb, none2, ← hns, hrr]
          exact .tup (st_of hr7) (.cons (.str _) (.cons (.int _) .nil))
        · by_cases z : j < i
          · exact good2 j z
          · rw [show j = i by omega, gd]
            exact hb2
      · subst hσ
        rw [List.length_map] at good2
        refine s_ret ev_c fun H5 e5 => q _ H5 ((e03.trans e4).trans e5) ?_
        have nt : twiceK ns = [] := filt_none good2
        rw [sigW, if_pos hb, none2, ← hns, nt]
        exact .non
end
end K24
end
section
namespace K24
open PySem PySem.Spec PyProof.Rows L2 Evl RZ Dw M20
/-! what is wrong in a model, as data -/
def sizeB : PyData → Bool
  | .int i => decide (1 ≤ i) && decide (i ≤ 6)
  | _ => false
def cellsOf : PyData → List PyData
  | .tuple cs => cs
  | _ => []
def tableB (n pl : Nat) : PyData → Bool
  | .tuple cs => decide (cs.length = n ^ pl)
  | _ => false
def plOf (sg : List (Str × Nat)) (k : Nat) : Nat := (sg.getD k ("", 0)).2
def badK (sg : List (Str × Nat)) (n : Nat) (tds : List PyData) : List Nat := (List.range sg.length).filter fun k => !tableB n (plOf sg k) (tds.getD k .none)
def oddRow (n : Nat) (cs : List PyData) : List Nat := (List.range cs.length).filter fun j => !belowB (n : Int) (cs.getD j .none)
def oddT (n : Nat) (tds : List PyData) : List Nat := (List.range tds.length).filter fun k => !(oddRow n (cellsOf (tds.getD k .none))).isEmpty
def intD (k : Nat) : PyData := .int ((k : Nat) : Int)
/-- the first odd cell -/
def oddW (n : Nat) (tds : List PyData) : Option (Nat × Nat) := match oddT n tds with
  | k :: _ => match oddRow n (cellsOf (tds.getD k .none)) with
    | j :: _ => some (k, j)
    | [] => none
  | [] => none
def modW4 (sg : List (Str × Nat)) (n : Nat) (tds : List PyData) : PyData := match badK sg n tds with
  | k :: _ => .tuple [.str "table", intD k]
  | [] => match oddW n tds with
    | some (k, j) => .tuple [.str "cell", intD k, intD j]
    | none => .none
def modW3 (sg : List (Str × Nat)) : PyData → PyData → PyData
  | .int i, .tuple tds => if tds.length = sg.length then modW4 sg i.toNat tds else .tuple [.str "tables"]
  | _, _ => .tuple [.str "tables"]
def modW2 (sg : List (Str × Nat)) (s t : PyData) : PyData := if sizeB s = true then modW3 sg s t else .tuple [.str "size"]
def modW (sg : List (Str × Nat)) : PyData → PyData
  | .tuple [s, t] => modW2 sg s t
  | _ => .tuple [.str "model"]
theorem oddRow_none {n : Nat} {cs : List PyData} (h : ∀ j, j < cs.length → belowB (n : Int) (cs.getD j .none) = true) : oddRow n cs = [] := filt_none (fun j hj => by rw [h j hj]; rfl)
theorem oddRow_first {n i : Nat} {cs : List PyData} (hi : i < cs.length) (h0 : ∀ j, j < i → belowB (n : Int) (cs.getD j .none) = true) (h1 : belowB (n : Int) (cs.getD i .none) = false) : ∃ r, oddRow n cs = i :: r := filt_first hi (fun j hj => by rw [h0 j hj]; rfl) (by rw [h1]; rfl)
theorem oddT_none {n : Nat} {tds : List PyData} (h : ∀ k, k < tds.length → oddRow n (cellsOf (tds.getD k .none)) = []) : oddW n tds = none := by
  have e : oddT n tds = [] := filt_none (fun k hk => by rw [h k hk]; rfl)
  rw [oddW, e]
theorem oddT_first {n k j : Nat} {tds : List PyData} {r : List Nat} (hk : k < tds.length) (h0 : ∀ i, i < k → oddRow n (cellsOf (tds.getD i .none)) = []) (h1 : oddRow n (cellsOf (tds.getD k .none)) = j :: r) : oddW n tds = some (k, j) := by
  obtain ⟨r2, e⟩ : ∃ r2, oddT n tds = k :: r2 := filt_first hk (fun i hi => by rw [h0 i hi]; rfl) (by rw [h1]; rfl)
  rw [oddW, e]
  show (match oddRow n (cellsOf (tds.getD k .none)) with
    | j :: _ => some (k, j)
    | [] => none) = some (k, j)
  rw [h1]
section
variable {P : Program} {w : World} {K : PySem.W.Frag} {mg : Str → Option Value} {base : Heap} {σ : L2.St} {H H' Hb : Hp} {p c : Addr} {n m k W : Nat} {v : V} {d : PyData}
def sp_size_any (K : PySem.W.Frag) : Sp := spX (fun (z : (Addr × Addr) × PyData) vs H => ∃ v, vs = [v] ∧ Dz K z.1.1 z.1.2 H v z.2) (fun z v H => v = .bl (sizeB z.2))
theorem c_size_any (T : Txt mg) (D : Df K mg "is_size" s_is_size ["thing"]) (c_whole_any : Cl P w K mg base 1 "is_whole" (sp_whole_any K)) : Cl P w K mg base 2 "is_size" (sp_size_any K) := by
  refine cl_of (k := 1) D sc_is_size (fun vs H Q E h => ?_) (fun f cdv A outer s H vs Q E hr h => ?_)
  · obtain ⟨d, ⟨v, rfl, _⟩, _⟩ := h
    rfl
  · obtain ⟨⟨⟨p, c⟩, d⟩, ⟨v, rfl, hv⟩, q⟩ := h
    have c_is_whole := c_whole_any
    refine ⟨_, (pss_one (ps_ret (pe_and (pe_cl c_is_whole hr (by first | decide | omega) (by rfl) (pa_cons (pv 0) pa_nil)) (pe_one (pe_chain op_le op_le pe_int (pv 0) (pe_gi (by rfl) T.c_MOST_SIZE)))))), ?_⟩
    replace hv : Dz K p c H v d := hv
    replace q : ∀ r H', Ex H H' → r = .bl (sizeB d) → Q r H' := q
    by_cases hw : wholeB d = true
    · obtain ⟨i, rfl, rfl⟩ := whole_int hv hw
      refine s_ret (ev_andV (a := true) (b := sizeB (.int i)) (ev_callV (v := .bl true) ((p, c), PyData.int i) (ea_cons (ev_var rfl) ea_nil) (fun H1 e1 => ⟨_, rfl, .int i⟩) (fun _ _ z => z.trans rfl)) (fun _ => ev_chain ev_c (ev_var rfl) (fun _ => ev_c) rv_I0 (fun _ => rv_I0))) fun H1 e1 => q _ H1 e1 rfl
    · have hw2 : wholeB d = false := by simpa using hw
      refine s_ret (ev_andV (a := false) (b := false) (ev_callV (v := .bl false) ((p, c), d) (ea_cons (ev_var rfl) ea_nil) (fun H1 e1 => ⟨_, rfl, hv.ex e1⟩) (fun _ _ z => by rw [z, hw2])) (fun z => by cases z)) fun H1 e1 => q _ H1 e1 ?_
      cases d <;> first | rfl | cases hw2
/-- what first_odd_cell tells -/
def oddD (n : Nat) (tds : List PyData) : PyData := match oddW n tds with
  | some (k, j) => .tuple [intD k, intD j]
  | none => .none
theorem put_get {us : List V} {ds : List PyData} (r : DzAll K p c H us ds) {i : Nat} {x : V} (hx : us[i]? = some x) : i < ds.length ∧ ∃ x', ds[i]? = some x' ∧ ds.getD i .none = x' ∧ Dz K p c H x x' := by
  obtain ⟨x', ex', dx⟩ := r.get hx
  exact ⟨(List.getElem?_eq_some_iff.mp ex').1, x', ex', by rw [List.getD_eq_getElem?_getD, ex']; rfl, dx⟩
def sp_odd_any (K : PySem.W.Frag) : Sp := spX (fun (z : (Addr × Addr) × Nat × List PyData) vs H => (∃ a us, vs = [vi z.2.1, .ref a] ∧ SqT K H a us ∧ DzAll K z.1.1 z.1.2 H us z.2.2) ∧ ∀ t ∈ z.2.2, isTup t = true) (fun z v H => Dp K H v (oddD z.2.1 z.2.2))
theorem c_odd_any (T : Txt mg) (D : Df K mg "first_odd_cell" s_first_odd_cell ["size", "tables"]) (c_below_any : Cl P w K mg base 2 "is_below" (sp_below_any K)) : Cl P w K mg base 3 "first_odd_cell" (sp_odd_any K) := by
  refine cl_of (k := 2) D sc_first_odd_cell (fun vs H Q E h => ?_) (fun f cdv A outer s H vs Q E hr h => ?_)
  · obtain ⟨z, ⟨⟨a, us, rfl, _⟩, _⟩, _⟩ := h
    rfl
  · obtain ⟨⟨⟨p, c⟩, n, tds⟩, ⟨⟨a, us, rfl, hS, r⟩, tups⟩, q⟩ := h
    have c_is_below := c_below_any
    refine ⟨_, (pss_cons (ps_for PassesOwn.never (by rfl) (pi_enumT (by rfl) T.z_enumerate (pa_cons (pv 1) pa_nil)) (pg_tup (by rfl) (pgs_cons (pg_name (i := 2) sc_first_odd_cell.nd rfl (.inl rfl)) (pgs_cons (pg_name (i := 3) sc_first_odd_cell.nd rfl (.inl rfl)) pgs_nil)))
        (pss_one (ps_for PassesOwn.never (by rfl) (pi_enumT (by rfl) T.z_enumerate (pa_cons (pv 3) pa_nil)) (pg_tup (by rfl) (pgs_cons (pg_name (i := 4) sc_first_odd_cell.nd rfl (.inl rfl)) (pgs_cons (pg_name (i := 5) sc_first_odd_cell.nd rfl (.inl rfl)) pgs_nil)))
          (pss_one (ps_if (pt_not (pt_val (pe_cl c_is_below hr (by first | decide | omega) (by rfl) (pa_cons (pv 5) (pa_cons (pv 0) pa_nil)))))
            (pss_one (ps_ret (pe_tup (pa_cons (pv 2) (pa_cons (pv 4) pa_nil)))))
            pss_nil)))))
      (pss_one (ps_ret pe_non))), ?_⟩
    replace hS : SqT K H a us := hS
    replace r : DzAll K p c H us tds := r
    replace tups : ∀ t ∈ tds, isTup t = true := tups
    replace q : ∀ r H', Ex H H' → Dp K H' r (oddD n tds) → Q r H' := q
    have hl := r.len
    refine q_enumT (K := K) (ea_cons (ev_var rfl) ea_nil) hS (fun i σ H' => Ex H H' ∧ (∀ j, j < i → oddRow n (cellsOf (tds.getD j .none)) = []) ∧ ∃ y2 y3 y4 y5, σ = [some (vi n), some (.ref a), y2, y3, y4, y5]) (fun H2 e2 => ⟨e2, fun j hj => absurd hj (Nat.not_lt_zero _), none, none, none, none, rfl⟩) (fun i σ H' _ ⟨e, _⟩ => ex_t e hS) (fun i x σ H2 H3 hx ⟨e, good, y2, y3, y4, y5, hσ⟩ e3 => ?_) (fun σ H2 ⟨e2, good, y2, y3, y4, y5, hσ⟩ => ?_)
    · subst hσ
      obtain ⟨hi, x', ex', gd, dx⟩ := put_get r hx
      have e03 : Ex H H3 := e.trans e3
      obtain ⟨b, xs, cs, rfl, rfl, hT, rc⟩ := tup_of (dx.ex e03) (tups x' (List.mem_of_getElem? ex'))
      have hlc := rc.len
      show tFor _ _ _ _ [some (vi n), some (.ref a), some (vi i), some (.ref b), y4, y5] H3
      refine s_enumT (K := K) (ea_cons (ev_var rfl) ea_nil) hT (fun j σ H' => Ex H3 H' ∧ (∀ m, m < j → belowB (n : Int) (cs.getD m .none) = true) ∧ ∃ y4 y5, σ = [some (vi n), some (.ref a), some (vi i), some (.ref b), y4, y5]) (fun H4 e4 => ⟨e4, fun j hj => absurd hj (Nat.not_lt_zero _), _, _, rfl⟩) (fun j σ H' _ ⟨e, _⟩ => ex_t e hT) (fun j x σ H4 H5 hx4 ⟨e4, good4, z4, z5, hσ⟩ e5 => ?_) (fun σ H4 ⟨e4, good4, z4, z5, hσ⟩ => ?_)
      · subst hσ
        obtain ⟨hj, y', ey', gy, dy⟩ := put_get rc hx4
        have e35 := e4.trans e5
        show tIfS _ _ _ _ [some (vi n), some (.ref a), some (vi i), some (.ref b), some (vi j), some x] H5
        refine s_when (b := !belowB (n : Int) y') (et_not (et_val (ev_callV (v := .bl (belowB (n : Int) y')) ((p, c), y', (n : Int)) (ea_cons (ev_var rfl) (ea_cons (ev_var rfl) ea_nil)) (fun H6 e6 => ⟨_, rfl, dy.ex (e35.trans e6)⟩) (fun _ _ z => z)))) (fun hb2 H6 e6 => ?_) (fun hb2 H6 e6 => ⟨e35.trans e6, fun m hm => ?_, _, _, rfl⟩)
        · rw [Bool.not_eq_true'] at hb2
          refine s_retU (eu_tup (vs := [vi i, vi j]) (ea_cons (ev_var rfl) (ea_cons (ev_var rfl) ea_nil)) (by show 2 ≤ 100000; decide)) fun r2 H7 _ e7 hr7 => q _ H7 ((e03.trans (e35.trans e6)).trans e7) ?_
          obtain ⟨rr, hrr⟩ := oddRow_first hj good4 (by rw [gy]; exact hb2)
          have ow := oddT_first (n := n) (tds := tds) (k := i) (j := j) (r := rr) hi good (by rw [gd]; exact hrr)
          rw [oddD, ow]
          exact .tup (st_of hr7) (.cons (.int _) (.cons (.int _) .nil))
        · rw [Bool.not_eq_false'] at hb2
          by_cases z : m < j
          · exact good4 m z
          · rw [show m = j by omega, gy]
            exact hb2
      · subst hσ
        rw [hlc] at good4
        refine ⟨e03.trans e4, fun m hm => ?_, _, _, _, _, rfl⟩
        by_cases z : m < i
        · exact good m z
        · rw [show m = i by omega, gd]
          exact oddRow_none good4
    · subst hσ
      rw [hl] at good
      refine s_ret (v := .non) ev_c fun H3 e3 => q _ H3 (e2.trans e3) ?_
      rw [oddD, oddT_none good]
      exact .non
end
end K24
end
section
namespace K24
open PySem PySem.Spec PyProof.Rows L2 Evl RZ Dw M20
theorem nat_of {i : Int} (h : sizeB (.int i) = true) : ∃ m : Nat, i = (m : Int) ∧ 1 ≤ m ∧ m ≤ 6 := by
  rw [sizeB, Bool.and_eq_true, decide_eq_true_eq, decide_eq_true_eq] at h
  exact ⟨i.toNat, by omega, by omega, by omega⟩
section
variable {P : Program} {w : World} {K : PySem.W.Frag} {mg : Str → Option Value} {base : Heap} {σ : L2.St} {H H' Hb : Hp} {p c : Addr} {n m k W : Nat} {v : V} {d : PyData}
theorem ne_len {t : TE} {a : Addr} {xs : List V} {m : Nat} {u : TE} (h : Ev t σ H (.ref a)) (s : SqT K H a xs) (hu : Ev u σ H (vi m)) : EvT (tTest (tOp rNe (tCB (rLenS K) (tCons t tNil)) u)) σ H (!decide (xs.length = m)) := et_is (et_test (ev_op (ev_lenT h s) hu (rv_ne rfl))) (by
  show (!decide (V.int (xs.length : Int) = V.int (m : Int))) = _
  congr 1
  rw [decide_eq_decide]
  exact ⟨fun y => by injection y with y; omega, fun y => by rw [y]⟩)
theorem s_word {wd : Str} {D : Ends} (h : ∀ r H', Ex H H' → Dp K H' r (.tuple [.str wd]) → D.rt r H') : tRet (tTup (tCons (tC (.str wd)) tNil)) D σ H := s_retU (eu_tup (ea_cons ev_c ea_nil) (by show 1 ≤ 100000; decide)) fun r H2 _ e2 hr2 => h _ H2 e2 (.tup (st_of hr2) (.cons (.str _) .nil))
theorem deeds_refs {K : PySem.W.Frag} {H : Hp} : ∀ {vs : List V} {sg : List (Str × Nat)}, Paired (Deed K H) vs sg → ∃ ps : List Addr, vs = ps.map V.ref ∧ Paired (fun p d => SqT K H p [.str d.1, vi d.2]) ps sg
  | _, _, .nil => ⟨[], rfl, .nil⟩
  | _, _, .cons h t => by
    obtain ⟨b, e, s⟩ := h
    obtain ⟨ps, e2, r⟩ := deeds_refs t
    exact ⟨b :: ps, by rw [e, e2]; rfl, .cons s r⟩
theorem sig_refs {K : PySem.W.Frag} {H : Hp} {v : V} {sg : List (Str × Nat)} (h : Sig K H v sg) : ∃ a ps, v = .ref a ∧ SqT K H a (ps.map V.ref) ∧ Paired (fun p d => SqT K H p [.str d.1, vi d.2]) ps sg := by
  obtain ⟨a, vs, e, s, p⟩ := h
  obtain ⟨ps, e2, r⟩ := deeds_refs p
  subst e2
  exact ⟨a, ps, e, s, r⟩
def MPre (K : PySem.W.Frag) (z : (Addr × Addr) × List (Str × Nat) × PyData) (vs : List V) (H : Hp) : Prop := (∃ u v, vs = [u, v] ∧ Sig K H u z.2.1 ∧ Dz K z.1.1 z.1.2 H v z.2.2) ∧ SigOk z.2.1
def sp_mod_any (K : PySem.W.Frag) : Sp := spX (MPre K) (fun z v H => Dp K H v (modW z.2.1 z.2.2))
theorem c_mod_any (T : Txt mg) (D : Df K mg "model_wrong" s_model_wrong ["signature", "thing"]) (c_need_signature : Cl P w K mg base 5 "need_signature" (sp_need_signature K)) (c_size_any : Cl P w K mg base 2 "is_size" (sp_size_any K)) (c_power : Cl P w K mg base 1 "power" sp_power) (c_odd_any : Cl P w K mg base 3 "first_odd_cell" (sp_odd_any K)) : Cl P w K mg base 6 "model_wrong" (sp_mod_any K) := by
  refine cl_of (k := 5) D sc_model_wrong (fun vs H Q E h => ?_) (fun f cdv A outer s H vs Q E hr h => ?_)
  · obtain ⟨z, ⟨⟨u, v, rfl, _⟩, _⟩, _⟩ := h
    rfl
  · obtain ⟨⟨⟨p, c⟩, sg, d⟩, ⟨⟨u, v, rfl, hF, hv⟩, sok⟩, q⟩ := h
    have c_is_size := c_size_any
    have c_first_odd_cell := c_odd_any
    refine ⟨_, (pss_cons (ps_expr (pe_cl c_need_signature hr (by first | decide | omega) (by rfl) (pa_cons (pv 0) pa_nil)))
      (pss_cons (ps_if (PW.pt (pw_or (pt_not (pt_val (pe_callB call_isi (by rfl) T.z_isinstance (by decide +kernel) (pa_cons (pv 1) (pa_cons (pe_ty "tuple" (by rfl) T.z_tuple (by decide +kernel)) pa_nil))))) (pw_or1 (pt_cmpR op_ne (pe_callB call_len_seq (by rfl) T.z_len PySem.boot_len (pa_cons (pv 1) pa_nil)) pe_int (nomark _)))))
        (pss_one (ps_ret (pe_tup (pa_cons pe_str pa_nil))))
        pss_nil)
      (pss_cons (ps_asg (pv 1) (pg_tup (by rfl) (pgs_cons (pg_name (i := 2) sc_model_wrong.nd rfl (.inl rfl)) (pgs_cons (pg_name (i := 3) sc_model_wrong.nd rfl (.inl rfl)) pgs_nil))))
      (pss_cons (ps_if (pt_not (pt_val (pe_cl c_is_size hr (by first | decide | omega) (by rfl) (pa_cons (pv 2) pa_nil))))
        (pss_one (ps_ret (pe_tup (pa_cons pe_str pa_nil))))
        pss_nil)
      (pss_cons (ps_if (PW.pt (pw_or (pt_not (pt_val (pe_callB call_isi (by rfl) T.z_isinstance (by decide +kernel) (pa_cons (pv 3) (pa_cons (pe_ty "tuple" (by rfl) T.z_tuple (by decide +kernel)) pa_nil))))) (pw_or1 (pt_cmpR op_ne (pe_callB call_len_seq (by rfl) T.z_len PySem.boot_len (pa_cons (pv 3) pa_nil)) (pe_callB call_len_seq (by rfl) T.z_len PySem.boot_len (pa_cons (pv 0) pa_nil)) (nomark _)))))
        (pss_one (ps_ret (pe_tup (pa_cons pe_str pa_nil))))
        pss_nil)
      (pss_cons (ps_for PassesOwn.never (by rfl) (pi_enumT (by rfl) T.z_enumerate (pa_cons (pv 0) pa_nil)) (pg_tup (by rfl) (pgs_cons (pg_name (i := 4) sc_model_wrong.nd rfl (.inl rfl)) (pgs_cons (pg_name (i := 5) sc_model_wrong.nd rfl (.inl rfl)) pgs_nil)))
        (pss_one (ps_if (PW.pt (pw_or (pt_not (pt_val (pe_callB call_isi (by rfl) T.z_isinstance (by decide +kernel) (pa_cons (pe_ix ix_tup (pv 3) (pv 4) (fun _ _ => rfl)) (pa_cons (pe_ty "tuple" (by rfl) T.z_tuple (by decide +kernel)) pa_nil))))) (pw_or1 (pt_cmpR op_ne (pe_callB call_len_seq (by rfl) T.z_len PySem.boot_len (pa_cons (pe_ix ix_tup (pv 3) (pv 4) (fun _ _ => rfl)) pa_nil)) (pe_cl c_power hr (by first | decide | omega) (by rfl) (pa_cons (pv 2) (pa_cons (pe_ix ix_tup (pv 5) pe_int (fun _ _ => rfl)) pa_nil))) (nomark _)))))
          (pss_one (ps_ret (pe_tup (pa_cons pe_str (pa_cons (pv 4) pa_nil)))))
          pss_nil)))
      (pss_cons (ps_set (i := 6) sc_model_wrong.nd rfl (.inl rfl) (pe_cl c_first_odd_cell hr (by first | decide | omega) (by rfl) (pa_cons (pv 2) (pa_cons (pv 3) pa_nil))))
      (pss_one (ps_ret (pe_ifExp (pt_cmpR op_isN (pv 6) pe_non (nomark _)) pe_non (pe_tup (pa_cons pe_str (pa_cons (pe_ix ix_tup (pv 6) pe_int (fun _ _ => rfl)) (pa_cons (pe_ix ix_tup (pv 6) pe_int (fun _ _ => rfl)) pa_nil)))))))))))))), ?_⟩
    replace hF : Sig K H u sg := hF
    replace hv : Dz K p c H v d := hv
    replace sok : SigOk sg := sok
    replace q : ∀ r H', Ex H H' → Dp K H' r (modW sg d) → Q r H' := q
    refine q_drop (ev_callV (v := .non) sg (ea_cons (ev_var rfl) ea_nil) (fun H1 e1 => ⟨⟨_, rfl, hF.ex e1⟩, sok⟩) (fun _ _ p => p)) fun H1 e1 => ?_
    by_cases hs2 : isTup d = false
    · exact q_when (b := true) (et_is (et_or (a := true) (b := false) (et_is (et_not (et_val (ev_isTup (K := K) (ev_var rfl) ev_c (hv.ex e1)))) (by rw [hs2]; rfl)) (fun z => by cases z)) rfl) (fun _ H2 e2 => s_word (K := K) fun r H3 e3 hr => q r H3 ((e1.trans e2).trans e3) (by
        have : modW sg d = .tuple [.str "model"] := by cases d <;> first | rfl | cases hs2
        rw [this]
        exact hr)) (fun hb => by cases hb)
    obtain ⟨b, xs, ds, rfl, rfl, hB, r⟩ := tup_of hv (by simpa using hs2)
    have lx := r.len
    refine q_when (b := !decide (xs.length = 2)) (et_is (et_or (a := false) (b := !decide (xs.length = 2)) (et_is (et_not (et_val (ev_isTup (K := K) (ev_var rfl) ev_c (hv.ex e1)))) rfl) (fun _ => ne_len (K := K) (m := 2) (ev_var rfl) (ex_t e1 hB) ev_c)) (by rw [Bool.false_or])) (fun hb H2 e2 => ?_) (fun hb H2 e2 => ?_)
    · have l2 : xs.length ≠ 2 := by simpa using hb
      refine s_word (K := K) fun r0 H3 e3 hr => q r0 H3 ((e1.trans e2).trans e3) ?_
      have : modW sg (.tuple ds) = .tuple [.str "model"] := by
        match ds, lx with
        | [], _ => rfl
        | [_], _ => rfl
        | [_, _], lx => exact absurd lx l2
        | _ :: _ :: _ :: _, _ => rfl
      rw [this]
      exact hr
    have l2 : xs.length = 2 := by simpa using hb
    obtain ⟨x1, x2, rfl⟩ := two_of l2
    obtain ⟨d1, d2, rfl⟩ := two_of (show ds.length = 2 by rw [← lx]; rfl)
    have e02 := e1.trans e2
    have y1 : Dz K p c H x1 d1 := by
      cases r with
      | cons x y => exact x
    have y2 : Dz K p c H x2 d2 := by
      cases r with
      | cons x y =>
        cases y with
        | cons x y => exact x
    refine do_setG (do_ev (ev_var rfl) fun H3 e3 => ⟨b, _, rfl, ex_t (e02.trans e3) hB, rfl, _, _, rfl, _, _, rfl, rfl, ?_⟩)
    have e03 := e02.trans e3
    show tSeq _ _ _ [some u, some (.ref b), some x1, some x2, none, none, none] H3
    refine q_when (b := !sizeB d1) (et_not (et_val (ev_callV (v := .bl (sizeB d1)) ((p, c), d1) (ea_cons (ev_var rfl) ea_nil) (fun H4 e4 => ⟨_, rfl, y1.ex (e03.trans e4)⟩) (fun _ _ z => z)))) (fun hbs H4 e4 => ?_) (fun hbs H4 e4 => ?_)
    · rw [Bool.not_eq_true'] at hbs
      refine s_word (K := K) fun r0 H5 e5 hr => q r0 H5 ((e03.trans e4).trans e5) ?_
      show Dp K H5 r0 (modW2 sg d1 d2)
      rw [modW2, if_neg (by rw [hbs]; decide)]
      exact hr
    rw [Bool.not_eq_false'] at hbs
    have e04 := e03.trans e4
    obtain ⟨i, rfl, rfl⟩ := whole_int y1 (by cases d1 <;> first | rfl | cases hbs)
    obtain ⟨m, rfl, m1, m6⟩ := nat_of hbs
    obtain ⟨sa, ps, rfl, sqS, prs⟩ := sig_refs hF
    have lps := paired_len prs
    show tSeq _ _ _ [some (.ref sa), some (.ref b), some (vi m), some x2, none, none, none] H4
    by_cases ht2 : isTup d2 = false
    · refine q_when (b := true) (et_is (et_or (a := true) (b := false) (et_is (et_not (et_val (ev_isTup (K := K) (ev_var rfl) ev_c (y2.ex e04)))) (by rw [ht2]; rfl)) (fun z => by cases z)) rfl) (fun _ H5 e5 => s_word (K := K) fun r0 H6 e6 hr => q r0 H6 ((e04.trans e5).trans e6) ?_) (fun hb => by cases hb)
      show Dp K H6 r0 (modW2 sg (.int (m : Int)) d2)
      rw [modW2, if_pos hbs]
      cases d2 <;> first | exact hr | cases ht2
    obtain ⟨ta, us, tds, rfl, rfl, hT, rT⟩ := tup_of y2 (by simpa using ht2)
    have lT := rT.len
    refine q_when (b := !decide (us.length = (ps.map V.ref).length)) (et_is (et_or (a := false) (b := !decide (us.length = (ps.map V.ref).length)) (et_is (et_not (et_val (ev_isTup (K := K) (ev_var rfl) ev_c (y2.ex e04)))) rfl) (fun _ => ne_len (K := K) (ev_var rfl) (ex_t e04 hT) (ev_lenT (ev_var rfl) (ex_t e04 sqS)))) (by rw [Bool.false_or])) (fun hb3 H5 e5 => ?_) (fun hb3 H5 e5 => ?_)
    · have l3 : ¬ tds.length = sg.length := by
        rw [Bool.not_eq_true', decide_eq_false_iff_not, List.length_map] at hb3
        omega
      refine s_word (K := K) fun r0 H6 e6 hr => q r0 H6 ((e04.trans e5).trans e6) ?_
      show Dp K H6 r0 (modW2 sg (.int (m : Int)) (.tuple tds))
      rw [modW2, if_pos hbs, modW3, if_neg l3]
      exact hr
    have l3 : tds.length = sg.length := by
      rw [Bool.not_eq_false', decide_eq_true_eq, List.length_map] at hb3
      omega
    have e05 := e04.trans e5
    have mw : modW sg (.tuple [.int (m : Int), .tuple tds]) = modW4 sg m tds := by
      show modW2 sg (.int (m : Int)) (.tuple tds) = _
      rw [modW2, if_pos hbs, modW3, if_pos l3]
      rfl
    refine q_enumT (K := K) (ea_cons (ev_var rfl) ea_nil) (ex_t e05 sqS) (fun i σ H' => Ex H H' ∧ (∀ j, j < i → tableB m (plOf sg j) (tds.getD j .none) = true) ∧ ∃ y4 y5, σ = [some (.ref sa), some (.ref b), some (vi m), some (.ref ta), y4, y5, none]) (fun H6 e6 => ⟨e05.trans e6, fun j hj => absurd hj (Nat.not_lt_zero _), none, none, rfl⟩) (fun i σ H' _ ⟨e, _⟩ => ex_t e sqS) (fun i x σ H6 H7 hx ⟨e, good, y4, y5, hσ⟩ e7 => ?_) (fun σ H6 ⟨e6, good, y4, y5, hσ⟩ => ?_)
    · subst hσ
      have ip : i < ps.length := by
        have := (List.getElem?_eq_some_iff.mp hx).1
        rw [List.length_map] at this
        exact this
      rw [List.getElem?_map, List.getElem?_eq_getElem ip] at hx
      cases Option.some.inj hx
      obtain ⟨dd, ed, hdd⟩ := paired_at prs (List.getElem?_eq_getElem ip)
      have memd : dd ∈ sg := List.mem_iff_getElem?.mpr ⟨i, ed⟩
      have pl2 : dd.2 ≤ 2 := sok.pl _ memd
      have gpl : plOf sg i = dd.2 := by
        rw [plOf, List.getD_eq_getElem?_getD, ed]
        rfl
      have e07 := e.trans e7
      have iu : i < us.length := by omega
      obtain ⟨hi, t', et', gd, dt⟩ := put_get rT (List.getElem?_eq_getElem iu)
      have tk : ∀ H8, Ex H7 H8 → Ev (tOp (rIxT K) (tVar 3) (tVar 4)) [some (.ref sa), some (.ref b), some (vi m), some (.ref ta), some (vi i), some (.ref ps[i]), none] H8 us[i] := fun H8 e8 => ev_op (ev_var rfl) (ev_var rfl) (rv_ixT (K := K) (ex_t (e07.trans e8) hT) (atI_nat (List.getElem?_eq_getElem iu)))
      show tIfS _ _ _ _ [some (.ref sa), some (.ref b), some (vi m), some (.ref ta), some (vi i), some (.ref ps[i]), none] H7
      have bad : ∀ {H8 : Hp}, Ex H7 H8 → tableB m (plOf sg i) (tds.getD i .none) = false → tRet (tTup (tCons (tC (.str "table")) (tCons (tVar 4) tNil))) { nx := fun _ H' => Q .non H', rt := Q } [some (.ref sa), some (.ref b), some (vi m), some (.ref ta), some (vi i), some (.ref ps[i]), none] H8 := fun {H8} e8 hbad => by
        refine s_retU (eu_tup (vs := [.str "table", vi i]) (ea_cons ev_c (ea_cons (ev_var rfl) ea_nil)) (by show 2 ≤ 100000; decide)) fun r2 H9 _ e9 hr9 => q _ H9 ((e07.trans e8).trans e9) ?_
        obtain ⟨rr, hrr⟩ : ∃ rr, badK sg m tds = i :: rr := filt_first (by omega) (fun j hj => by rw [good j hj]; rfl) (by rw [hbad]; rfl)
        rw [mw, modW4, hrr]
        exact .tup (st_of hr9) (.cons (.str _) (.cons (.int _) .nil))
      by_cases htt : isTup t' = false
      · exact s_when (b := true) (et_is (et_or (a := true) (b := false) (et_is (et_not (et_val (ev_isTup (K := K) (tk H7 (Ex.refl _)) ev_c (dt.ex e07)))) (by rw [htt]; rfl)) (fun z => by cases z)) rfl) (fun _ H8 e8 => bad e8 (by rw [gd]; cases t' <;> first | rfl | cases htt)) (fun hb => by cases hb)
      · obtain ⟨ca, cvs, cs, ecv, rfl, hC, rC⟩ := tup_of dt (by simpa using htt)
        have lc := rC.len
        have tk2 := tk H7 (Ex.refl _)
        rw [ecv] at tk2
        refine s_when (b := !decide (cvs.length = m ^ dd.2)) (et_is (et_or (a := false) (b := !decide (cvs.length = m ^ dd.2)) (et_is (et_not (et_val (ev_isTup (K := K) (tk H7 (Ex.refl _)) ev_c (dt.ex e07)))) rfl) (fun _ => ne_len (K := K) tk2 (ex_t e07 hC) (ev_callV (v := vi (m ^ dd.2)) (m, dd.2) (ea_cons (ev_var rfl) (ea_cons (ev_op (ev_var rfl) ev_c (rv_ixT (K := K) (ex_t e07 hdd) (atI_vi (k := 1) rfl))) ea_nil)) (fun _ _ => ⟨rfl, m6, Nat.le_trans pl2 (by decide)⟩) (fun _ _ p => p)))) (by rw [Bool.false_or])) (fun hb5 H8 e8 => bad e8 ?_) (fun hb5 H8 e8 => ⟨e07.trans e8, fun j hj => ?_, _, _, rfl⟩)
        · rw [Bool.not_eq_true', decide_eq_false_iff_not] at hb5
          rw [gd, gpl]
          show decide (cs.length = m ^ dd.2) = false
          rw [← lc]
          exact decide_eq_false hb5
        · rw [Bool.not_eq_false', decide_eq_true_eq] at hb5
          by_cases z : j < i
          · exact good j z
          · rw [show j = i by omega, gd, gpl]
            show decide (cs.length = m ^ dd.2) = true
            rw [← lc]
            exact decide_eq_true hb5
    · subst hσ
      rw [List.length_map] at good
      have nb : badK sg m tds = [] := filt_none (fun j hj => by rw [good j (by omega)]; rfl)
      have tups : ∀ t ∈ tds, isTup t = true := fun t ht => by
        obtain ⟨j, hj, e⟩ := List.mem_iff_getElem.mp ht
        have g := good j (by omega)
        have gj : tds.getD j .none = t := by
          rw [List.getD_eq_getElem?_getD, List.getElem?_eq_getElem hj, e]
          rfl
        rw [gj] at g
        cases t <;> first | rfl | cases g
      refine q_asgP (ep_call ((p, c), m, tds) (ea_cons (ev_var rfl) (ea_cons (ev_var rfl) ea_nil)) (fun H7 e7 => ⟨⟨ta, us, rfl, ex_t (e6.trans e7) hT, rT.ex (e6.trans e7)⟩, tups⟩)) fun ov H7 e7 hov => ?_
      replace hov : Dp K H7 ov (oddD m tds) := hov
      show tRet _ _ [some (.ref sa), some (.ref b), some (vi m), some (.ref ta), y4, y5, some ov] H7
      rw [mw, modW4, nb] at q
      cases ho : oddW m tds with
      | none =>
        rw [oddD, ho] at hov
        cases hov
        rw [ho] at q
        refine s_ret (ev_if (b := true) ?_ (fun _ => ev_c) (fun hb => by cases hb)) fun H8 e8 => q _ H8 ((e6.trans e7).trans e8) .non
        exact fun H7 e7 Q q => ⟨_, rfl, rfl, _, rfl, q H7 (Ex.refl H7)⟩
      | some kj =>
        obtain ⟨k0, j0⟩ := kj
        rw [oddD, ho] at hov
        rw [ho] at q
        cases hov with
        | tup sO rO =>
          cases rO with
          | cons a1 b1 =>
            cases a1
            cases b1 with
            | cons a2 b2 =>
              cases a2
              cases b2
              refine do_ret (do_ifX (b := false) (fun H8 e8 Q8 q8 => ⟨_, rfl, rfl, _, rfl, q8 H8 (Ex.refl H8)⟩) (fun hb => by cases hb) (fun _ H8 e8 => ?_))
              refine eu_tup (vs := [.str "cell", vi k0, vi j0]) (ea_cons ev_c (ea_cons (ev_op (ev_var rfl) ev_c (rv_ixT (K := K) (ex_t e8 sO) (atI_vi (k := 0) rfl))) (ea_cons (ev_op (ev_var rfl) ev_c (rv_ixT (K := K) (ex_t e8 sO) (atI_vi (k := 1) rfl))) ea_nil))) (by show 3 ≤ 100000; decide) H8 (Ex.refl _) _ fun r9 H9 _ e9 hr9 => q _ H9 ((e6.trans e7).trans (e8.trans e9)) (.tup (st_of hr9) (.cons (.str _) (.cons (.int _) (.cons (.int _) .nil))))
end
end K24
end
section
namespace K24
open PySem PySem.Spec PyProof.Rows L2 Evl RZ Dw M20 M25
/-- what the top says of the errors' classes -/
structure ErO (K : PySem.W.Frag) (mg : Str → Option Value) (C : Nat → Addr) (G0 : Addr) : Prop where
  g : mg "DeedError" = some (.ref G0)
  s0 : ExcT K mg "NoSignature" (C 0)
  s1 : ExcT K mg "NoModel" (C 1)
  s2 : ExcT K mg "NoOrder" (C 2)
  kit : ∀ i j, i < 3 → j < 3 → PySem.W.kitOne K (.ref (C i)) (.ref (C j)) = some (decide (i = j))
  val : ∀ i, i < 3 → PySem.W.kitOne K (.ref (C i)) (.type "ValueError") = some true
  xc : ∀ i, i < 3 → ExcC K (C i)
  xm : ∀ i, i < 3 → PySem.W.exmOne K (.ref (C i)) (.ref G0) = some true
/-- a promise to raise the error of a number -/
def spEK (C : Nat → Addr) (A : Nat → List V → Hp → Prop) : Sp := fun vs H _ E => ∃ i, i < 3 ∧ A i vs H ∧ ∀ H', Ex H H' → E (.ref (C i)) none H'
theorem s_ifX {r : R2} {sp : Sp} {E : L2.St → XK} {ta : TA} {tb : TE} {tu tw : TS} {D : Ends} {σ : L2.St} {H : Hp} (h : ta σ H fun vs H1 => sp vs H1 (fun x H2 => tb σ H2 fun y H3 => r x y H3 fun z H4 => ∃ k, z = .bl k ∧ (if k = true then tu D σ H4 else tw D σ H4)) (E σ)) : tIfS (tTest (tOp r (tCallS sp E ta) tb)) tu tw D σ H := h
def SgE (K : PySem.W.Frag) (i : Nat) (u : V) (H : Hp) : Prop := i = 0 ∧ ∃ p c d, Dz K p c H u d ∧ Gb 50 100000 d ∧ sigW d ≠ .none
def MdE (K : PySem.W.Frag) (i : Nat) (u v : V) (H : Hp) : Prop := i = 1 ∧ ∃ p c sg d, Sig K H u sg ∧ SigOk sg ∧ Dz K p c H v d ∧ modW sg d ≠ .none
def NmE (K : PySem.W.Frag) (i : Nat) (vs : List V) (H : Hp) : Prop := ∃ u v, vs = [u, v] ∧ (SgE K i u H ∨ MdE K i u v H)
def NtE (K : PySem.W.Frag) (i : Nat) (vs : List V) (H : Hp) : Prop := ∃ u v w, vs = [u, v, w] ∧ (NmE K i [u, v] H ∨ ((∃ sg n ts, Sig K H u sg ∧ SigOk sg ∧ Mdl K H v n ts ∧ MdlOk sg n ts) ∧ MdE K i u w H))
theorem SgE.ex {K : PySem.W.Frag} {i : Nat} {u : V} {H H' : Hp} (e : Ex H H') (h : SgE K i u H) : SgE K i u H' := let ⟨a, p, c, d, z, r⟩ := h; ⟨a, p, c, d, z.ex e, r⟩
theorem MdE.ex {K : PySem.W.Frag} {i : Nat} {u v : V} {H H' : Hp} (e : Ex H H') (h : MdE K i u v H) : MdE K i u v H' := let ⟨a, p, c, sg, d, s, o, z, r⟩ := h; ⟨a, p, c, sg, d, s.ex e, o, z.ex e, r⟩
theorem NmE.ex {K : PySem.W.Frag} {i : Nat} {vs : List V} {H H' : Hp} (e : Ex H H') (h : NmE K i vs H) : NmE K i vs H' := by
  obtain ⟨u, v, ev, h | h⟩ := h
  · exact ⟨u, v, ev, .inl (h.ex e)⟩
  · exact ⟨u, v, ev, .inr (h.ex e)⟩
theorem NtE.ex {K : PySem.W.Frag} {i : Nat} {vs : List V} {H H' : Hp} (e : Ex H H') (h : NtE K i vs H) : NtE K i vs H' := by
  obtain ⟨u, v, w, ev, h | ⟨⟨sg, n, ts, a, b, c, d⟩, h⟩⟩ := h
  · exact ⟨u, v, w, ev, .inl (h.ex e)⟩
  · exact ⟨u, v, w, ev, .inr ⟨⟨sg, n, ts, a.ex e, b, c.ex e, d⟩, h.ex e⟩⟩
theorem sig_ref {K : PySem.W.Frag} {H : Hp} {v : V} {d : PyData} (h : Dp K H v (sigW d)) (ne : sigW d ≠ .none) : ∃ a, v = .ref a := by
  have e : sigW d = .none ∨ ∃ ds, sigW d = .tuple ds := by
    unfold sigW
    split
    · split
      · split
        · exact .inr ⟨_, rfl⟩
        · split
          · exact .inr ⟨_, rfl⟩
          · exact .inl rfl
      · exact .inr ⟨_, rfl⟩
    · exact .inr ⟨_, rfl⟩
  rcases e with e | ⟨ds, e⟩
  · exact absurd e ne
  · rw [e] at h
    cases h with
    | tup s _ => exact ⟨_, rfl⟩
theorem mod_ref {K : PySem.W.Frag} {H : Hp} {v : V} {sg : List (Str × Nat)} {d : PyData} (h : Dp K H v (modW sg d)) (ne : modW sg d ≠ .none) : ∃ a, v = .ref a := by
  have e4 : ∀ n tds, modW4 sg n tds = .none ∨ ∃ ds, modW4 sg n tds = .tuple ds := fun n tds => by
    unfold modW4
    split
    · exact .inr ⟨_, rfl⟩
    · split
      · exact .inr ⟨_, rfl⟩
      · exact .inl rfl
  have e3 : ∀ s t, modW3 sg s t = .none ∨ ∃ ds, modW3 sg s t = .tuple ds := fun s t => by
    unfold modW3
    split
    · split
      · exact e4 _ _
      · exact .inr ⟨_, rfl⟩
    · exact .inr ⟨_, rfl⟩
  have e : modW sg d = .none ∨ ∃ ds, modW sg d = .tuple ds := by
    unfold modW
    split
    · unfold modW2
      split
      · exact e3 _ _
      · exact .inr ⟨_, rfl⟩
    · exact .inr ⟨_, rfl⟩
  rcases e with e | ⟨ds, e⟩
  · exact absurd e ne
  · rw [e] at h
    cases h with
    | tup s _ => exact ⟨_, rfl⟩
section
variable {P : Program} {w : World} {K : PySem.W.Frag} {mg : Str → Option Value} {base : Heap} {C : Nat → Addr} {G0 : Addr}
theorem c_need_signatureX (T : Txt mg) (D : Df K mg "need_signature" s_need_signature ["signature"]) (er : ErO K mg C G0) (c_sig_any : Cl P w K mg base 4 "signature_wrong" (sp_sig_any K)) : ClX P w K mg base 5 "need_signature" (spEK C fun i vs H => ∃ u, vs = [u] ∧ SgE K i u H) := by
  refine clx_of (k := 4) D sc_need_signature (fun vs H Q E h => ?_) (fun f cdv A outer s H vs Q E hr h => ?_)
  · obtain ⟨i, _, ⟨u, rfl, _⟩, _⟩ := h
    rfl
  · obtain ⟨i, i3, ⟨u, rfl, rfl, p, c, d, hv, wd, bad⟩, q⟩ := h
    have c_signature_wrong := c_sig_any
    refine ⟨_, (pss_one (ps_if (pt_cmpR op_notN (pe_cl c_signature_wrong hr (by first | decide | omega) (by rfl) (pa_cons (pv 0) pa_nil)) pe_non (nomark _))
        (pss_one (ps_raise rfl (takes_of rfl rfl rfl rfl) (pmk_own PySem.F.excBase_ValueError er.s0.q er.s0.g er.s0.k (raises_own er.s0.c.hs er.s0.t) (by rfl))))
        pss_nil)), ?_⟩
    exact s_when (b := true) (et_isNP ((ep_call ((p, c), d) (ea_cons (ev_var rfl) ea_nil) (fun H1 e1 => ⟨⟨_, rfl, hv.ex e1⟩, wd⟩)).imp fun r H1 _ hr1 => sig_ref hr1 bad)) (fun _ H1 e1 => q H1 e1) (fun hb => by cases hb)
theorem c_model_wrongX (T : Txt mg) (D : Df K mg "model_wrong" s_model_wrong ["signature", "thing"]) (er : ErO K mg C G0) (c_need_signatureX : ClX P w K mg base 5 "need_signature" (spEK C fun i vs H => ∃ u, vs = [u] ∧ SgE K i u H)) : ClX P w K mg base 6 "model_wrong" (spEK C fun i vs H => ∃ u v, vs = [u, v] ∧ SgE K i u H) := by
  refine clx_of (k := 5) D sc_model_wrong (fun vs H Q E h => ?_) (fun f cdv A outer s H vs Q E hr h => ?_)
  · obtain ⟨i, _, ⟨u, v, rfl, _⟩, _⟩ := h
    rfl
  · obtain ⟨i, i3, ⟨u, v, rfl, hs⟩, q⟩ := h
    refine ⟨_, (pss_cons (ps_expr (pe_clX c_need_signatureX (takes_of rfl rfl rfl rfl) hr (by first | decide | omega) (by rfl) (pa_cons (pv 0) pa_nil)))
      (pss_cons (ps_never)
      (pss_cons (ps_never)
      (pss_cons (ps_never)
      (pss_cons (ps_never)
      (pss_cons (ps_never)
      (pss_cons (ps_never)
      (pss_one (ps_never))))))))), ?_⟩
    exact do_try (W0 := fun _ => fun cls d _ H => E cls d H) (ea_cons (ev_var rfl) ea_nil H (Ex.refl _) _ fun H2 e2 => ⟨i, i3, ⟨_, rfl, hs.ex e2⟩, fun H3 e3 => q H3 (e2.trans e3)⟩)
theorem c_need_modelX (T : Txt mg) (D : Df K mg "need_model" s_need_model ["signature", "model"]) (er : ErO K mg C G0) (c_model_wrongX : ClX P w K mg base 6 "model_wrong" (spEK C fun i vs H => ∃ u v, vs = [u, v] ∧ SgE K i u H)) (c_mod_any : Cl P w K mg base 6 "model_wrong" (sp_mod_any K)) : ClX P w K mg base 7 "need_model" (spEK C (NmE K)) := by
  refine clx_of (k := 6) D sc_need_model (fun vs H Q E h => ?_) (fun f cdv A outer s H vs Q E hr h => ?_)
  · obtain ⟨i, _, ⟨u, v, rfl, _⟩, _⟩ := h
    rfl
  · obtain ⟨i, i3, ⟨u, v, rfl, hs | ⟨rfl, p, c, sg, d, hG, so, hv, bad⟩⟩, q⟩ := h
    · refine ⟨_, (pss_one (ps_if (pt_cmpR op_notN (pe_clX c_model_wrongX (takes_of rfl rfl rfl rfl) hr (by first | decide | omega) (by rfl) (pa_cons (pv 0) (pa_cons (pv 1) pa_nil))) pe_non (nomark _))
        (pss_one (ps_never))
        pss_nil)), ?_⟩
      exact s_ifX (ea_cons (ev_var rfl) (ea_cons (ev_var rfl) ea_nil) H (Ex.refl _) _ fun H2 e2 => ⟨i, i3, ⟨_, _, rfl, hs.ex e2⟩, fun H3 e3 => q H3 (e2.trans e3)⟩)
    · have c_model_wrong := c_mod_any
      refine ⟨_, (pss_one (ps_if (pt_cmpR op_notN (pe_cl c_model_wrong hr (by first | decide | omega) (by rfl) (pa_cons (pv 0) (pa_cons (pv 1) pa_nil))) pe_non (nomark _))
        (pss_one (ps_raise rfl (takes_of rfl rfl rfl rfl) (pmk_own PySem.F.excBase_ValueError er.s1.q er.s1.g er.s1.k (raises_own er.s1.c.hs er.s1.t) (by rfl))))
        pss_nil)), ?_⟩
      exact s_when (b := true) (et_isNP ((ep_call ((p, c), sg, d) (ea_cons (ev_var rfl) (ea_cons (ev_var rfl) ea_nil)) (fun H1 e1 => ⟨⟨_, _, rfl, hG.ex e1, hv.ex e1⟩, so⟩)).imp fun r H1 _ hr1 => mod_ref hr1 bad)) (fun _ H1 e1 => q H1 e1) (fun hb => by cases hb)
theorem c_least_formX (T : Txt mg) (D : Df K mg "least_form" s_least_form ["signature", "model"]) (er : ErO K mg C G0) (c_need_modelX : ClX P w K mg base 7 "need_model" (spEK C (NmE K))) : ClX P w K mg base 8 "least_form" (spEK C (NmE K)) := by
  refine clx_of (k := 7) D sc_least_form (fun vs H Q E h => ?_) (fun f cdv A outer s H vs Q E hr h => ?_)
  · obtain ⟨i, _, ⟨u, v, rfl, _⟩, _⟩ := h
    rfl
  · obtain ⟨i, i3, hn, q⟩ := h
    obtain ⟨u, v, rfl, _⟩ := id hn
    refine ⟨_, (pss_cons (ps_expr (pe_clX c_need_modelX (takes_of rfl rfl rfl rfl) hr (by first | decide | omega) (by rfl) (pa_cons (pv 0) (pa_cons (pv 1) pa_nil))))
      (pss_cons (ps_never)
      (pss_one (ps_never)))), ?_⟩
    exact do_try (W0 := fun _ => fun cls d _ H => E cls d H) (ea_cons (ev_var rfl) (ea_cons (ev_var rfl) ea_nil) H (Ex.refl _) _ fun H2 e2 => ⟨i, i3, hn.ex e2, fun H3 e3 => q H3 (e2.trans e3)⟩)
theorem c_own_ordersX (T : Txt mg) (D : Df K mg "own_orders" s_own_orders ["signature", "model"]) (er : ErO K mg C G0) (c_need_modelX : ClX P w K mg base 7 "need_model" (spEK C (NmE K))) : ClX P w K mg base 8 "own_orders" (spEK C (NmE K)) := by
  refine clx_of (k := 7) D sc_own_orders (fun vs H Q E h => ?_) (fun f cdv A outer s H vs Q E hr h => ?_)
  · obtain ⟨i, _, ⟨u, v, rfl, _⟩, _⟩ := h
    rfl
  · obtain ⟨i, i3, hn, q⟩ := h
    obtain ⟨u, v, rfl, _⟩ := id hn
    refine ⟨_, (pss_cons (ps_expr (pe_clX c_need_modelX (takes_of rfl rfl rfl rfl) hr (by first | decide | omega) (by rfl) (pa_cons (pv 0) (pa_cons (pv 1) pa_nil))))
      (pss_one (ps_never))), ?_⟩
    exact do_try (W0 := fun _ => fun cls d _ H => E cls d H) (ea_cons (ev_var rfl) (ea_cons (ev_var rfl) ea_nil) H (Ex.refl _) _ fun H2 e2 => ⟨i, i3, hn.ex e2, fun H3 e3 => q H3 (e2.trans e3)⟩)
theorem c_renamingsX (T : Txt mg) (D : Df K mg "renamings" s_renamings ["signature", "model"]) (er : ErO K mg C G0) (c_need_modelX : ClX P w K mg base 7 "need_model" (spEK C (NmE K))) : ClX P w K mg base 8 "renamings" (spEK C (NmE K)) := by
  refine clx_of (k := 7) D sc_renamings (fun vs H Q E h => ?_) (fun f cdv A outer s H vs Q E hr h => ?_)
  · obtain ⟨i, _, ⟨u, v, rfl, _⟩, _⟩ := h
    rfl
  · obtain ⟨i, i3, hn, q⟩ := h
    obtain ⟨u, v, rfl, _⟩ := id hn
    refine ⟨_, (pss_cons (ps_expr (pe_clX c_need_modelX (takes_of rfl rfl rfl rfl) hr (by first | decide | omega) (by rfl) (pa_cons (pv 0) (pa_cons (pv 1) pa_nil))))
      (pss_one (ps_never))), ?_⟩
    exact do_try (W0 := fun _ => fun cls d _ H => E cls d H) (ea_cons (ev_var rfl) (ea_cons (ev_var rfl) ea_nil) H (Ex.refl _) _ fun H2 e2 => ⟨i, i3, hn.ex e2, fun H3 e3 => q H3 (e2.trans e3)⟩)
theorem c_orbitsX (T : Txt mg) (D : Df K mg "orbits" s_orbits ["signature", "model"]) (er : ErO K mg C G0) (c_need_modelX : ClX P w K mg base 7 "need_model" (spEK C (NmE K))) : ClX P w K mg base 8 "orbits" (spEK C (NmE K)) := by
  refine clx_of (k := 7) D sc_orbits (fun vs H Q E h => ?_) (fun f cdv A outer s H vs Q E hr h => ?_)
  · obtain ⟨i, _, ⟨u, v, rfl, _⟩, _⟩ := h
    rfl
  · obtain ⟨i, i3, hn, q⟩ := h
    obtain ⟨u, v, rfl, _⟩ := id hn
    refine ⟨_, (pss_cons (ps_expr (pe_clX c_need_modelX (takes_of rfl rfl rfl rfl) hr (by first | decide | omega) (by rfl) (pa_cons (pv 0) (pa_cons (pv 1) pa_nil))))
      (pss_cons (ps_never)
      (pss_cons (ps_never)
      (pss_cons (ps_never)
      (pss_one (ps_never)))))), ?_⟩
    exact do_try (W0 := fun _ => fun cls d _ H => E cls d H) (ea_cons (ev_var rfl) (ea_cons (ev_var rfl) ea_nil) H (Ex.refl _) _ fun H2 e2 => ⟨i, i3, hn.ex e2, fun H3 e3 => q H3 (e2.trans e3)⟩)
theorem c_need_two_modelsX (T : Txt mg) (D : Df K mg "need_two_models" s_need_two_models ["signature", "one", "other"]) (er : ErO K mg C G0) (c_need_modelX : ClX P w K mg base 7 "need_model" (spEK C (NmE K))) (c_need_model : Cl P w K mg base 7 "need_model" (sp_need_model K)) : ClX P w K mg base 8 "need_two_models" (spEK C (NtE K)) := by
  refine clx_of (k := 7) D sc_need_two_models (fun vs H Q E h => ?_) (fun f cdv A outer s H vs Q E hr h => ?_)
  · obtain ⟨i, _, ⟨u, v, w, rfl, _⟩, _⟩ := h
    rfl
  · obtain ⟨i, i3, ⟨u, v, x3, rfl, hn | ⟨⟨sg, n, ts, hG, so, hM, mo⟩, hb⟩⟩, q⟩ := h
    · refine ⟨_, (pss_cons (ps_expr (pe_clX c_need_modelX (takes_of rfl rfl rfl rfl) hr (by first | decide | omega) (by rfl) (pa_cons (pv 0) (pa_cons (pv 1) pa_nil))))
      (pss_one (ps_never))), ?_⟩
      exact do_try (W0 := fun _ => fun cls d _ H => E cls d H) (ea_cons (ev_var rfl) (ea_cons (ev_var rfl) ea_nil) H (Ex.refl _) _ fun H2 e2 => ⟨i, i3, hn.ex e2, fun H3 e3 => q H3 (e2.trans e3)⟩)
    · refine ⟨_, (pss_cons (ps_expr (pe_cl c_need_model hr (by first | decide | omega) (by rfl) (pa_cons (pv 0) (pa_cons (pv 1) pa_nil))))
      (pss_one (ps_expr (pe_clX c_need_modelX (takes_of rfl rfl rfl rfl) hr (by first | decide | omega) (by rfl) (pa_cons (pv 0) (pa_cons (pv 2) pa_nil)))))), ?_⟩
      refine q_drop (v := .non) (ev_callV (sg, n, ts) (ea_cons (ev_var rfl) (ea_cons (ev_var rfl) ea_nil)) (fun H1 e1 => ⟨⟨_, _, rfl, hG.ex e1, hM.ex e1⟩, so, mo⟩) (fun _ _ z => z)) fun H1 e1 => ?_
      exact do_callS (ea_cons (ev_var rfl) (ea_cons (ev_var rfl) ea_nil) H1 (Ex.refl _) _ fun H2 e2 => ⟨i, i3, ⟨_, _, rfl, .inr (hb.ex (e1.trans e2))⟩, fun H3 e3 => q H3 ((e1.trans e2).trans e3)⟩)
theorem c_likenessX (T : Txt mg) (D : Df K mg "likeness" s_likeness ["signature", "one", "other"]) (er : ErO K mg C G0) (c_need_two_modelsX : ClX P w K mg base 8 "need_two_models" (spEK C (NtE K))) : ClX P w K mg base 9 "likeness" (spEK C (NtE K)) := by
  refine clx_of (k := 8) D sc_likeness (fun vs H Q E h => ?_) (fun f cdv A outer s H vs Q E hr h => ?_)
  · obtain ⟨i, _, ⟨u, v, w, rfl, _⟩, _⟩ := h
    rfl
  · obtain ⟨i, i3, hn, q⟩ := h
    obtain ⟨u, v, x3, rfl, _⟩ := id hn
    refine ⟨_, (pss_cons (ps_expr (pe_clX c_need_two_modelsX (takes_of rfl rfl rfl rfl) hr (by first | decide | omega) (by rfl) (pa_cons (pv 0) (pa_cons (pv 1) (pa_cons (pv 2) pa_nil)))))
      (pss_cons (ps_never)
      (pss_one (ps_never)))), ?_⟩
    exact do_try (W0 := fun _ => fun cls d _ H => E cls d H) (ea_cons (ev_var rfl) (ea_cons (ev_var rfl) (ea_cons (ev_var rfl) ea_nil)) H (Ex.refl _) _ fun H2 e2 => ⟨i, i3, hn.ex e2, fun H3 e3 => q H3 (e2.trans e3)⟩)
theorem c_likeness_judgedX (T : Txt mg) (D : Df K mg "likeness_judged" s_likeness_judged ["signature", "one", "other", "paper"]) (er : ErO K mg C G0) (c_need_two_modelsX : ClX P w K mg base 8 "need_two_models" (spEK C (NtE K))) : ClX P w K mg base 9 "likeness_judged" (spEK C (fun i vs H => ∃ u v w y, vs = [u, v, w, y] ∧ NtE K i [u, v, w] H)) := by
  refine clx_of (k := 8) D sc_likeness_judged (fun vs H Q E h => ?_) (fun f cdv A outer s H vs Q E hr h => ?_)
  · obtain ⟨i, _, ⟨u, v, w, y, rfl, _⟩, _⟩ := h
    rfl
  · obtain ⟨i, i3, ⟨u, v, x3, y, rfl, hn⟩, q⟩ := h
    refine ⟨_, (pss_cons (ps_expr (pe_clX c_need_two_modelsX (takes_of rfl rfl rfl rfl) hr (by first | decide | omega) (by rfl) (pa_cons (pv 0) (pa_cons (pv 1) (pa_cons (pv 2) pa_nil)))))
      (pss_cons (ps_never)
      (pss_cons (ps_never)
      (pss_cons (ps_never)
      (pss_cons (ps_never)
      (pss_one (ps_never))))))), ?_⟩
    exact do_try (W0 := fun _ => fun cls d _ H => E cls d H) (ea_cons (ev_var rfl) (ea_cons (ev_var rfl) (ea_cons (ev_var rfl) ea_nil)) H (Ex.refl _) _ fun H2 e2 => ⟨i, i3, hn.ex e2, fun H3 e3 => q H3 (e2.trans e3)⟩)
end
end K24
end
section
namespace K24
open PySem PySem.Spec PyProof.Rows L2 Evl RZ Dw M20 M25
def natOf : PyData → Nat
  | .int i => i.toNat
  | _ => 0
theorem below_nat {K : PySem.W.Frag} {p c : Addr} {H : Hp} {v : V} {n : Nat} {e : PyData} (h : Dz K p c H v e) (b : belowB n e = true) : v = vi (natOf e) ∧ natOf e < n := by
  cases h with
  | int i =>
    rw [belowB, Bool.and_eq_true, decide_eq_true_eq, decide_eq_true_eq] at b
    refine ⟨?_, ?_⟩
    · show V.int i = V.int ((i.toNat : Nat) : Int)
      rw [Int.toNat_of_nonneg b.1]
    · show i.toNat < n
      omega
  | _ => cases b
/-- all below, none twice -/
def unlB (n : Nat) (ds : List PyData) : Bool := ds.all (belowB n) && decide ((ds.map natOf).Nodup)
def ordB (n : Nat) : PyData → Bool
  | .tuple ds => decide (ds.length = n) && unlB n ds
  | _ => false
def lenD : PyData → Nat
  | .tuple ds => ds.length
  | _ => 0
theorem nodup_snoc {l : List Nat} {x : Nat} (h : l.Nodup) (n : x ∉ l) : (l ++ [x]).Nodup := List.nodup_append.mpr ⟨h, List.nodup_cons.mpr ⟨(by intro z; cases z), List.nodup_nil⟩, fun a ha b hb e => n (by rw [← List.mem_singleton.mp hb, ← e]; exact ha)⟩
section
variable {P : Program} {w : World} {K : PySem.W.Frag} {mg : Str → Option Value} {base : Heap} {C : Nat → Addr} {G0 : Addr}
def sp_unlike_any (K : PySem.W.Frag) : Sp := spX (fun (z : (Addr × Addr) × List PyData × Nat) vs H => (∃ a xs, vs = [.ref a, vi z.2.2] ∧ SqT K H a xs ∧ DzAll K z.1.1 z.1.2 H xs z.2.1) ∧ z.2.2 ≤ 1000) (fun z v _ => v = .bl (unlB z.2.2 z.2.1))
theorem c_unlike_any (T : Txt mg) (D : Df K mg "are_unlike_below" s_are_unlike_below ["things", "size"]) (c_below_any : Cl P w K mg base 2 "is_below" (sp_below_any K)) : Cl P w K mg base 3 "are_unlike_below" (sp_unlike_any K) := by
  refine cl_of (k := 2) D sc_are_unlike_below (fun vs H Q E h => ?_) (fun f cdv A outer s H vs Q E hr h => ?_)
  · obtain ⟨z, ⟨⟨a, xs, rfl, _⟩, _⟩, _⟩ := h
    rfl
  · obtain ⟨⟨⟨p, c⟩, ds, n⟩, ⟨⟨a, xs, rfl, hS, hd⟩, n1⟩, q⟩ := h
    have c_is_below := c_below_any
    refine ⟨_, (pss_cons (ps_set (i := 2) sc_are_unlike_below.nd rfl (.inl rfl) (pe_op op_rep (pe_lst (pa_cons pe_bl pa_nil)) (pv 1)))
      (pss_cons (ps_for PassesOwn.never (by rfl) (pi_tup (pv 0)) (pg_name (i := 3) sc_are_unlike_below.nd rfl (.inl rfl))
        (pss_cons (ps_if (PW.pt (pw_or (pt_not (pt_val (pe_cl c_is_below hr (by first | decide | omega) (by rfl) (pa_cons (pv 3) (pa_cons (pv 1) pa_nil))))) (pw_or1 (pt_val (pe_ix ix_list (pv 2) (pv 3) (fun _ _ => rfl))))))
          (pss_one (ps_ret pe_bl))
          pss_nil)
        (pss_one (ps_asg pe_bl (pg_sub (pv 2) (pv 3) set_list)))))
      (pss_one (ps_ret pe_bl)))), ?_⟩
    replace hd : DzAll K p c H xs ds := hd
    replace n1 : n ≤ 1000 := n1
    replace q : ∀ r H', Ex H H' → r = .bl (unlB n ds) → Q r H' := q
    have lx := hd.len
    refine q_asgL (el_rep (el_lst (ea_cons ev_c ea_nil) (by decide)) (ev_var rfl) (by show 1 * n ≤ _; omega) (by show n ≤ 100000; omega)) fun m H2 nm e2 hm => ?_
    rw [rep1] at hm
    refine q_forT (ev_var rfl) (ex_t e2 hS) (fun i σ H' => Ex H H' ∧ H' m = some (.lst ((List.range n).map fun k => V.bl (decide (k ∈ (ds.take i).map natOf)))) ∧ (ds.take i).all (belowB n) = true ∧ ((ds.take i).map natOf).Nodup ∧ ∃ y, σ = [some (.ref a), some (vi n), some (.ref m), y]) (fun H3 e3 => ⟨e2.trans e3, by
        rw [e3 _ _ hm]
        congr 2
        rw [List.take_zero]
        show List.replicate n (V.bl false) = (List.range n).map fun k => V.bl (decide (k ∈ ([] : List Nat)))
        rw [show (fun k => V.bl (decide (k ∈ ([] : List Nat)))) = fun _ => V.bl false from funext fun k => by rw [decide_eq_false (by intro z; cases z)], List.map_const', List.length_range], rfl, List.nodup_nil, none, rfl⟩) (fun i σ H' _ ⟨e, _⟩ => ex_t e hS) (fun i x σ H3 hx ⟨e3, hm3, al, nd, y, hσ⟩ => ?_) (fun σ H3 ⟨e3, hm3, al, nd, y, hσ⟩ => ?_)
    · subst hσ
      obtain ⟨e, he, hz⟩ := hd.get hx
      have il : i < ds.length := (List.getElem?_eq_some_iff.mp he).1
      have tk : ds.take (i + 1) = ds.take i ++ [e] := by rw [List.take_add_one, he]; rfl
      have spl : ds = ds.take i ++ (e :: ds.drop (i + 1)) := by
        conv => lhs; rw [← List.take_append_drop i ds, List.drop_eq_getElem_cons il]
        rw [(List.getElem?_eq_some_iff.mp he).2]
      have bel : Ev (tCall (sp_below_any K) [] E0 (tCons (tVar 3) (tCons (tVar 1) tNil))) [some (.ref a), some (vi n), some (.ref m), some x] H3 (.bl (belowB n e)) := ev_callV ((p, c), e, ((n : Nat) : Int)) (ea_cons (ev_var rfl) (ea_cons (ev_var rfl) ea_nil)) (fun H4 e4 => ⟨x, rfl, hz.ex (e3.trans e4)⟩) (fun _ _ z => z)
      by_cases hb : belowB n e = true
      · obtain ⟨rfl, lt⟩ := below_nat hz hb
        have at0 : ((List.range n).map fun k => V.bl (decide (k ∈ (ds.take i).map natOf)))[natOf e]? = some (.bl (decide (natOf e ∈ (ds.take i).map natOf))) := by
          rw [List.getElem?_map, List.getElem?_range lt]
          rfl
        refine q_when (b := decide (natOf e ∈ (ds.take i).map natOf)) (et_is (et_or (a := false) (et_is (et_not (et_val bel)) (by rw [hb]; rfl)) (fun _ => et_val (ev_op (ev_var rfl) (ev_var rfl) (rv_ixL (K := K) (sq_of hm3) (atI_vi at0))))) (by rw [Bool.false_or])) (fun hd2 H4 e4 => ?_) (fun hd2 H4 e4 => ?_)
        · have mem := of_decide_eq_true hd2
          refine s_ret (v := .bl false) ev_c fun H5 e5 => q _ H5 ((e3.trans e4).trans e5) ?_
          have : unlB n ds = false := by
            unfold unlB
            rw [Bool.and_eq_false_iff]
            refine .inr (decide_eq_false fun z => ?_)
            rw [spl, List.map_append, List.map_cons] at z
            exact (List.nodup_append.mp z).2.2 _ mem _ (List.mem_cons_self ..) rfl
          rw [this]
        · have nmem := of_decide_eq_false hd2
          refine s_setL (e4 _ _ hm3) ev_c (ev_var rfl) (ev_var rfl) (by rw [List.length_map, List.length_range]; exact lt) (fun H5 e5 => ⟨((e3.trans e4).trans e5).mut nm, ?_, ?_, ?_, _, rfl⟩)
          · rw [upd_same]
            congr 2
            apply List.ext_getElem?
            intro j
            rw [List.getElem?_set, List.length_map, List.length_range, List.getElem?_map, List.getElem?_map]
            by_cases hj : j < n
            · rw [List.getElem?_range hj]
              by_cases ej : natOf e = j
              · rw [if_pos ej, if_pos lt]
                show _ = some (V.bl (decide (j ∈ (ds.take (i + 1)).map natOf)))
                rw [tk, List.map_append, decide_eq_true (List.mem_append_right _ (by rw [← ej]; exact List.mem_singleton.mpr rfl))]
              · rw [if_neg ej]
                show some (V.bl (decide (j ∈ (ds.take i).map natOf))) = some (V.bl (decide (j ∈ (ds.take (i + 1)).map natOf)))
                congr 2
                rw [tk, List.map_append]
                refine decide_eq_decide.mpr ⟨fun z => List.mem_append_left _ z, fun z => ?_⟩
                rcases List.mem_append.mp z with z | z
                · exact z
                · exact absurd (List.mem_singleton.mp z).symm ej
            · rw [if_neg (by omega), List.getElem?_eq_none_iff.mpr (by rw [List.length_range]; omega)]
              rfl
          · rw [tk, List.all_append, al]
            show (true && (belowB n e && true)) = true
            rw [hb]
            rfl
          · rw [tk, List.map_append]
            exact nodup_snoc nd nmem
      · have hb2 : belowB n e = false := by simpa using hb
        refine q_when (b := true) (et_is (et_or (a := true) (b := false) (et_is (et_not (et_val bel)) (by rw [hb2]; rfl)) (fun z => by cases z)) rfl) (fun _ H4 e4 => ?_) (fun z => by cases z)
        refine s_ret (v := .bl false) ev_c fun H5 e5 => q _ H5 ((e3.trans e4).trans e5) ?_
        have : unlB n ds = false := by
          unfold unlB
          rw [Bool.and_eq_false_iff]
          refine .inl ?_
          rw [spl, List.all_append, List.all_cons, hb2]
          simp
        rw [this]
    · subst hσ
      rw [lx, List.take_length] at al nd
      refine s_ret (v := .bl true) ev_c fun H4 e4 => q _ H4 (e3.trans e4) ?_
      unfold unlB
      rw [al, decide_eq_true nd]
      rfl
def sp_order_any (K : PySem.W.Frag) : Sp := spX (fun (z : (Addr × Addr) × PyData × Nat) vs H => (∃ v, vs = [v, vi z.2.2] ∧ Dz K z.1.1 z.1.2 H v z.2.1) ∧ z.2.2 ≤ 1000) (fun z v _ => v = .bl (ordB z.2.2 z.2.1))
theorem c_order_any (T : Txt mg) (D : Df K mg "is_order" s_is_order ["thing", "size"]) (c_unlike_any : Cl P w K mg base 3 "are_unlike_below" (sp_unlike_any K)) : Cl P w K mg base 4 "is_order" (sp_order_any K) := by
  refine cl_of (k := 3) D sc_is_order (fun vs H Q E h => ?_) (fun f cdv A outer s H vs Q E hr h => ?_)
  · obtain ⟨z, ⟨⟨v, rfl, _⟩, _⟩, _⟩ := h
    rfl
  · obtain ⟨⟨⟨p, c⟩, d, n⟩, ⟨⟨v, rfl, hv⟩, n1⟩, q⟩ := h
    have c_are_unlike_below := c_unlike_any
    refine ⟨_, (pss_one (ps_ret (pe_and (pe_callB call_isi (by rfl) T.z_isinstance (by decide +kernel) (pa_cons (pv 0) (pa_cons (pe_ty "tuple" (by rfl) T.z_tuple (by decide +kernel)) pa_nil))) (pe_and (pe_cmpR op_eq (pe_callB call_len_seq (by rfl) T.z_len PySem.boot_len (pa_cons (pv 0) pa_nil)) (pv 1) (nomark _)) (pe_one (pe_cl c_are_unlike_below hr (by first | decide | omega) (by rfl) (pa_cons (pv 0) (pa_cons (pv 1) pa_nil)))))))), ?_⟩
    replace hv : Dz K p c H v d := hv
    replace n1 : n ≤ 1000 := n1
    replace q : ∀ r H', Ex H H' → r = .bl (ordB n d) → Q r H' := q
    by_cases ht : isTup d = true
    · obtain ⟨a, xs, ds, rfl, rfl, hA, hD⟩ := tup_of hv ht
      have lx := hD.len
      refine s_ret (ev_andV (a := true) (ev_isTup (K := K) (ev_var rfl) ev_c hv) (fun _ => ev_andV (a := decide (ds.length = n)) (ev_is (ev_op (ev_lenT (ev_var rfl) hA) (ev_var rfl) (rv_eq rfl)) (by
        congr 1
        rw [lx]
        exact decide_eq_decide.mpr ⟨fun y => by have : ((ds.length : Nat) : Int) = (n : Int) := V.int.inj y; omega, fun y => by rw [y]⟩)) (fun _ => ev_callV (v := .bl (unlB n ds)) ((p, c), ds, n) (ea_cons (ev_var rfl) (ea_cons (ev_var rfl) ea_nil)) (fun H1 e1 => ⟨⟨_, _, rfl, ex_t e1 hA, DzAll.ex e1 hD⟩, n1⟩) (fun _ _ z => z)))) fun H1 e1 => q _ H1 e1 ?_
      rw [Bool.true_and]
      rfl
    · have ht2 : isTup d = false := by simpa using ht
      refine s_ret (ev_andV (a := false) (b := false) (ev_is (ev_isTup (K := K) (ev_var rfl) ev_c hv) (by rw [ht2])) (fun z => by cases z)) fun H1 e1 => q _ H1 e1 ?_
      cases d <;> first | rfl | cases ht2
/-! ### no order -/
def OdE (K : PySem.W.Frag) (n : Nat) (v : V) (H : Hp) : Prop := ∃ p c d, Dz K p c H v d ∧ ordB n d = false
def RnE (K : PySem.W.Frag) (i : Nat) (vs : List V) (H : Hp) : Prop := ∃ u v o, vs = [u, v, o] ∧ (NmE K i [u, v] H ∨ (i = 2 ∧ ∃ sg n ts, Sig K H u sg ∧ SigOk sg ∧ Mdl K H v n ts ∧ MdlOk sg n ts ∧ OdE K n o H))
theorem RnE.ex {i : Nat} {vs : List V} {H H' : Hp} (e : Ex H H') (h : RnE K i vs H) : RnE K i vs H' := by
  obtain ⟨u, v, o, ev, h | ⟨i2, sg, n, ts, a, b, c, d, p, c0, d0, z, r⟩⟩ := h
  · exact ⟨u, v, o, ev, .inl (h.ex e)⟩
  · exact ⟨u, v, o, ev, .inr ⟨i2, sg, n, ts, a.ex e, b, c.ex e, d, p, c0, d0, z.ex e, r⟩⟩
theorem c_renamedX (T : Txt mg) (D : Df K mg "renamed" s_renamed ["signature", "model", "order"]) (er : ErO K mg C G0) (c_need_modelX : ClX P w K mg base 7 "need_model" (spEK C (NmE K))) (c_need_model : Cl P w K mg base 7 "need_model" (sp_need_model K)) (c_order_any : Cl P w K mg base 4 "is_order" (sp_order_any K)) : ClX P w K mg base 8 "renamed" (spEK C (RnE K)) := by
  refine clx_of (k := 7) D sc_renamed (fun vs H Q E h => ?_) (fun f cdv A outer s H vs Q E hr h => ?_)
  · obtain ⟨i, _, ⟨u, v, o, rfl, _⟩, _⟩ := h
    rfl
  · obtain ⟨i, i3, ⟨u, v, o, rfl, hn | ⟨rfl, sg, n, ts, hG, so, hM, mo, p, c, d, hz, bad⟩⟩, q⟩ := h
    · refine ⟨_, (pss_cons (ps_expr (pe_clX c_need_modelX (takes_of rfl rfl rfl rfl) hr (by first | decide | omega) (by rfl) (pa_cons (pv 0) (pa_cons (pv 1) pa_nil))))
      (pss_cons (ps_never)
      (pss_cons (ps_never)
      (pss_one (ps_never))))), ?_⟩
      exact do_try (W0 := fun _ => fun cls d _ H => E cls d H) (ea_cons (ev_var rfl) (ea_cons (ev_var rfl) ea_nil) H (Ex.refl _) _ fun H2 e2 => ⟨i, i3, hn.ex e2, fun H3 e3 => q H3 (e2.trans e3)⟩)
    · have c_is_order := c_order_any
      refine ⟨_, (pss_cons (ps_expr (pe_cl c_need_model hr (by first | decide | omega) (by rfl) (pa_cons (pv 0) (pa_cons (pv 1) pa_nil))))
      (pss_cons (ps_asg (pv 1) (pg_tup (by rfl) (pgs_cons (pg_name (i := 3) sc_renamed.nd rfl (.inl rfl)) (pgs_cons (pg_name (i := 4) sc_renamed.nd rfl (.inl rfl)) pgs_nil))))
      (pss_cons (ps_if (pt_not (pt_val (pe_cl c_is_order hr (by first | decide | omega) (by rfl) (pa_cons (pv 2) (pa_cons (pv 3) pa_nil)))))
        (pss_one (ps_raise rfl (takes_of rfl rfl rfl rfl) (pmk_own PySem.F.excBase_ValueError er.s2.q er.s2.g er.s2.k (raises_own er.s2.c.hs er.s2.t) (by rfl))))
        pss_nil)
      (pss_one (ps_never))))), ?_⟩
      obtain ⟨b, tv, rfl, hB, hT⟩ := id hM
      have n6 := mo.n6
      refine q_drop (v := .non) (ev_callV (sg, n, ts) (ea_cons (ev_var rfl) (ea_cons (ev_var rfl) ea_nil)) (fun H1 e1 => ⟨⟨_, _, rfl, hG.ex e1, hM.ex e1⟩, so, mo⟩) (fun _ _ z => z)) fun H1 e1 => ?_
      refine ⟨.ref b, rfl, b, _, rfl, ex_t e1 hB, rfl, _, _, rfl, _, _, rfl, rfl, ?_⟩
      dsimp only
      exact q_when (b := true) (et_is (et_not (et_val (ev_callV (v := .bl false) ((p, c), d, n) (ea_cons (ev_var rfl) (ea_cons (ev_var rfl) ea_nil)) (fun H2 e2 => ⟨⟨_, rfl, hz.ex (e1.trans e2)⟩, by show n ≤ 1000; omega⟩) (fun v2 _ z => by
        replace z : v2 = .bl (ordB n d) := z
        rw [z, bad])))) rfl) (fun _ H2 e2 => q H2 (e1.trans e2)) (fun hb => by cases hb)
/-- two things of which the one behind the other is no order -/
def RbE (K : PySem.W.Frag) (i : Nat) (vs : List V) (H : Hp) : Prop := ∃ a b, vs = [a, b] ∧ i = 2 ∧ ∃ p c d1 d2, Dz K p c H a d1 ∧ Dz K p c H b d2 ∧ lenD d1 ≤ 1000 ∧ (ordB (lenD d1) d1 = false ∨ ordB (lenD d1) d2 = false)
theorem RbE.ex {i : Nat} {vs : List V} {H H' : Hp} (e : Ex H H') (h : RbE K i vs H) : RbE K i vs H' := by
  obtain ⟨a, b, ev, i2, p, c, d1, d2, z1, z2, r⟩ := h
  exact ⟨a, b, ev, i2, p, c, d1, d2, z1.ex e, z2.ex e, r⟩
theorem c_renamed_byX (T : Txt mg) (D : Df K mg "renamed_by" s_renamed_by ["one", "other"]) (er : ErO K mg C G0) (c_order_any : Cl P w K mg base 4 "is_order" (sp_order_any K)) : ClX P w K mg base 5 "renamed_by" (spEK C (RbE K)) := by
  refine clx_of (k := 4) D sc_renamed_by (fun vs H Q E h => ?_) (fun f cdv A outer s H vs Q E hr h => ?_)
  · obtain ⟨i, _, ⟨u, v, rfl, _⟩, _⟩ := h
    rfl
  · obtain ⟨i, i3, ⟨u, v, rfl, rfl, p, c, d1, d2, z1, z2, few, bad⟩, q⟩ := h
    have c_is_order := c_order_any
    by_cases h1 : ordB (lenD d1) d1 = true
    · have bad2 : ordB (lenD d1) d2 = false := by
        rcases bad with b | b
        · rw [b] at h1; cases h1
        · exact b
      have ht : isTup d1 = true := by cases d1 <;> first | rfl | cases h1
      obtain ⟨a, xs, ds, rfl, rfl, hA, hD⟩ := tup_of z1 ht
      have lx := hD.len
      replace few : ds.length ≤ 1000 := few
      refine ⟨_, (pss_cons (ps_if (PW.pt (pw_or (pt_not (pt_val (pe_callB call_isi (by rfl) T.z_isinstance (by decide +kernel) (pa_cons (pv 0) (pa_cons (pe_ty "tuple" (by rfl) T.z_tuple (by decide +kernel)) pa_nil))))) (pw_or1 (pt_not (pt_val (pe_cl c_is_order hr (by first | decide | omega) (by rfl) (pa_cons (pv 0) (pa_cons (pe_callB call_len_seq (by rfl) T.z_len PySem.boot_len (pa_cons (pv 0) pa_nil)) pa_nil))))))))
        (pss_one (ps_never))
        pss_nil)
      (pss_cons (ps_if (pt_not (pt_val (pe_cl c_is_order hr (by first | decide | omega) (by rfl) (pa_cons (pv 1) (pa_cons (pe_callB call_len_seq (by rfl) T.z_len PySem.boot_len (pa_cons (pv 0) pa_nil)) pa_nil)))))
        (pss_one (ps_raise rfl (takes_of rfl rfl rfl rfl) (pmk_own PySem.F.excBase_ValueError er.s2.q er.s2.g er.s2.k (raises_own er.s2.c.hs er.s2.t) (by rfl))))
        pss_nil)
      (pss_one (ps_never)))), ?_⟩
      have ln : ∀ {H' : Hp} {σ : L2.St}, Ex H H' → σ[0]? = some (some (.ref a)) → Ev (tCB (rLenS K) (tCons (tVar 0) tNil)) σ H' (vi ds.length) := fun {H' σ} e h => ev_is (ev_lenT (ev_var h) (ex_t e hA)) (by rw [lx])
      refine q_when (b := false) (et_is (et_or (a := false) (b := false) (et_is (et_not (et_val (ev_isTup (K := K) (ev_var rfl) ev_c z1))) rfl) (fun _ => et_is (et_not (et_val (ev_callV (v := .bl true) ((p, c), .tuple ds, ds.length) (ea_cons (ev_var rfl) (ea_cons (ln (Ex.refl _) rfl) ea_nil)) (fun H1 e1 => ⟨⟨_, rfl, z1.ex e1⟩, few⟩) (fun v2 _ z => by
        replace z : v2 = .bl (ordB ds.length (.tuple ds)) := z
        rw [z]
        exact congrArg V.bl h1)))) rfl)) rfl) (fun hb => by cases hb) (fun _ H1 e1 => ?_)
      exact q_when (b := true) (et_is (et_not (et_val (ev_callV (v := .bl false) ((p, c), d2, ds.length) (ea_cons (ev_var rfl) (ea_cons (ln e1 rfl) ea_nil)) (fun H2 e2 => ⟨⟨_, rfl, z2.ex (e1.trans e2)⟩, few⟩) (fun v2 _ z => by
        replace z : v2 = .bl (ordB ds.length d2) := z
        rw [z]
        exact congrArg V.bl bad2)))) rfl) (fun _ H2 e2 => q H2 (e1.trans e2)) (fun hb => by cases hb)
    · have h2 : ordB (lenD d1) d1 = false := by simpa using h1
      refine ⟨_, (pss_cons (ps_if (PW.pt (pw_or (pt_not (pt_val (pe_callB call_isi (by rfl) T.z_isinstance (by decide +kernel) (pa_cons (pv 0) (pa_cons (pe_ty "tuple" (by rfl) T.z_tuple (by decide +kernel)) pa_nil))))) (pw_or1 (pt_not (pt_val (pe_cl c_is_order hr (by first | decide | omega) (by rfl) (pa_cons (pv 0) (pa_cons (pe_callB call_len_seq (by rfl) T.z_len PySem.boot_len (pa_cons (pv 0) pa_nil)) pa_nil))))))))
        (pss_one (ps_raise rfl (takes_of rfl rfl rfl rfl) (pmk_own PySem.F.excBase_ValueError er.s2.q er.s2.g er.s2.k (raises_own er.s2.c.hs er.s2.t) (by rfl))))
        pss_nil)
      (pss_cons (ps_never)
      (pss_one (ps_never)))), ?_⟩
      by_cases ht : isTup d1 = true
      · obtain ⟨a, xs, ds, rfl, rfl, hA, hD⟩ := tup_of z1 ht
        have lx := hD.len
        replace few : ds.length ≤ 1000 := few
        exact q_when (b := true) (et_is (et_or (a := false) (b := true) (et_is (et_not (et_val (ev_isTup (K := K) (ev_var rfl) ev_c z1))) rfl) (fun _ => et_is (et_not (et_val (ev_callV (v := .bl false) ((p, c), .tuple ds, ds.length) (ea_cons (ev_var rfl) (ea_cons (ev_is (ev_lenT (ev_var rfl) hA) (by rw [lx])) ea_nil)) (fun H1 e1 => ⟨⟨_, rfl, z1.ex e1⟩, few⟩) (fun v2 _ z => by
          replace z : v2 = .bl (ordB ds.length (.tuple ds)) := z
          rw [z]
          exact congrArg V.bl h2)))) rfl)) rfl) (fun _ H1 e1 => q H1 e1) (fun hb => by cases hb)
      · have ht2 : isTup d1 = false := by simpa using ht
        exact q_when (b := true) (et_is (et_or (a := true) (b := false) (et_is (et_not (et_val (ev_isTup (K := K) (ev_var rfl) ev_c z1))) (by rw [ht2]; rfl)) (fun z => by cases z)) rfl) (fun _ H1 e1 => q H1 e1) (fun hb => by cases hb)
/-! ### no paper -/
theorem c_has_paper_formN (T : Txt mg) (D : Df K mg "has_paper_form" s_has_paper_form ["paper"]) : Cl P w K mg base 1 "has_paper_form" (spX (fun (_ : Unit) vs _ => vs = [.non]) (fun _ v _ => v = .bl false)) := by
  refine cl_of (k := 0) D sc_has_paper_form (fun vs H Q E h => ?_) (fun f cdv A outer s H vs Q E hr h => ?_)
  · obtain ⟨_, rfl, _⟩ := h
    rfl
  · obtain ⟨_, rfl, q⟩ := h
    refine ⟨_, (pss_cons (ps_if (pt_not (pt_val (pe_callB call_isi (by rfl) T.z_isinstance (by decide +kernel) (pa_cons (pv 0) (pa_cons (pe_ty "tuple" (by rfl) T.z_tuple (by decide +kernel)) pa_nil)))))
        (pss_one (ps_ret pe_bl))
        pss_nil)
      (pss_cons (ps_never)
      (pss_one (ps_never)))), ?_⟩
    exact q_when (b := true) (et_is (et_not (et_val (ev_isi (b := false) (ev_var rfl) ev_c (.ty _) (fun _ _ => tyx_non) (kit_ty (by decide +kernel))))) rfl) (fun _ H1 e1 => s_ret ev_c fun H2 e2 => q _ H2 (e1.trans e2) rfl) (fun hb => by cases hb)
theorem c_judgedN (T : Txt mg) (D : Df K mg "likeness_judged" s_likeness_judged ["signature", "one", "other", "paper"]) (c_need_two_models : Cl P w K mg base 8 "need_two_models" (sp_need_two K)) (c_has_paper_formN : Cl P w K mg base 1 "has_paper_form" (spX (fun (_ : Unit) vs _ => vs = [.non]) (fun _ v _ => v = .bl false))) : Cl P w K mg base 9 "likeness_judged" (spX (fun (x : MArg × MArg) vs H => (∃ u v w, vs = [u, v, w, .non] ∧ MA K H u v x.1 ∧ Mdl K H w x.2.2.1 x.2.2.2) ∧ Pair2 x.1 x.2) (fun _ _ _ => True)) := by
  refine cl_of (k := 8) D sc_likeness_judged (fun vs H Q E h => ?_) (fun f cdv A outer s H vs Q E hr h => ?_)
  · obtain ⟨_, ⟨⟨u, v, w, rfl, _⟩, _⟩, _⟩ := h
    rfl
  · obtain ⟨⟨p, p2⟩, ⟨⟨u, v, x3, rfl, hm, hw⟩, pr⟩, q⟩ := h
    have c_has_paper_form := c_has_paper_formN
    refine ⟨_, (pss_cons (ps_expr (pe_cl c_need_two_models hr (by first | decide | omega) (by rfl) (pa_cons (pv 0) (pa_cons (pv 1) (pa_cons (pv 2) pa_nil)))))
      (pss_cons (ps_if (pt_not (pt_val (pe_cl c_has_paper_form hr (by first | decide | omega) (by rfl) (pa_cons (pv 3) pa_nil))))
        (pss_one (ps_ret (pe_tup (pa_cons pe_str pa_nil))))
        pss_nil)
      (pss_cons (ps_never)
      (pss_cons (ps_never)
      (pss_cons (ps_never)
      (pss_one (ps_never))))))), ?_⟩
    replace hm : MA K H u v p := hm
    replace hw : Mdl K H x3 p2.2.1 p2.2.2 := hw
    refine q_drop (v := .non) (ev_callV (p, p2) (ea_cons (ev_var rfl) (ea_cons (ev_var rfl) (ea_cons (ev_var rfl) ea_nil))) (fun H1 e1 => ⟨⟨_, _, _, rfl, hm.ex e1, hw.ex e1⟩, pr.ok, pr.ok2, pr.es⟩) (fun _ _ z => z)) fun H1 e1 => ?_
    exact q_when (b := true) (et_is (et_not (et_val (ev_callV (v := .bl false) () (ea_cons (ev_var rfl) ea_nil) (fun H2 e2 => rfl) (fun _ _ z => z)))) rfl) (fun _ H2 e2 => s_retP (tv_tup (K := K) (xs := [.str "paper"]) (ea_cons ev_c ea_nil) (by show 1 ≤ 100000; decide)) fun rv H3 e3 _ => q _ H3 ((e1.trans e2).trans e3) trivial) (fun hb => by cases hb)
end
end K24
end
section
namespace K24
open PySem PySem.Spec PyProof.Rows L2 Evl RZ Dw M20 M25 CL LK
section
variable {P : Program} {w : World} {K : PySem.W.Frag} {mg : Str → Option Value} {base : Heap}
def sp_least_tables (K : PySem.W.Frag) : Sp := spX (fun (p : MArg) vs H => (∃ u v, vs = [u, vi p.2.1, v] ∧ Sig K H u p.1 ∧ Tabs K H v p.2.2) ∧ MOk p) (fun p v H => Tabs K H v (least p.2.1 (ptl p.1 p.2.2)))
theorem c_least_tables (T : Txt mg) (D : Df K mg "least_tables" s_least_tables ["signature", "size", "tables"]) (c_least_begins : Cl P w K mg base 4 "least_begins" (sp_least_begins K)) : Cl P w K mg base 5 "least_tables" (sp_least_tables K) := by
  refine cl_of (k := 4) D sc_least_tables (fun vs H Q E h => ?_) (fun f cdv A outer s H vs Q E hr h => ?_)
  · obtain ⟨p, ⟨⟨u, v, rfl, _⟩, _⟩, _⟩ := h
    rfl
  · obtain ⟨⟨sg, n, ts⟩, ⟨⟨u, v, rfl, hG, hT⟩, ok⟩, q⟩ := h
    refine ⟨_, (pss_one (ps_ret (pe_ix ix_tup (pe_cl c_least_begins hr (by first | decide | omega) (by rfl) (pa_cons (pv 0) (pa_cons (pv 1) (pa_cons (pv 2) pa_nil)))) pe_int (fun _ _ => rfl)))), ?_⟩
    exact s_retP (P := fun v H' => Tabs K H' v (least n (ptl sg ts))) (ep_ixP (K := K) (ep_call (sg, n, ts) (ea_cons (ev_var rfl) (ea_cons (ev_var rfl) (ea_cons (ev_var rfl) ea_nil))) fun H1 e1 => ⟨⟨_, _, rfl, hG.ex e1, hT.ex e1⟩, ok.1, ok.2⟩) fun v H1 ⟨p, x, y, ev, sp, hx, hy⟩ => ⟨p, _, x, ev, sp, rfl, hx⟩) fun rv H1 e1 hv => q _ H1 e1 hv
def sp_least_form (K : PySem.W.Frag) : Sp := spX (fun (p : MArg) vs H => (∃ u v, vs = [u, v] ∧ MA K H u v p) ∧ MOk p) (fun p v H => Mdl K H v p.2.1 (least p.2.1 (ptl p.1 p.2.2)))
theorem c_least_form (T : Txt mg) (D : Df K mg "least_form" s_least_form ["signature", "model"]) (c_need_model : Cl P w K mg base 7 "need_model" (sp_need_model K)) (c_least_tables : Cl P w K mg base 5 "least_tables" (sp_least_tables K)) : Cl P w K mg base 8 "least_form" (sp_least_form K) := by
  refine cl_of (k := 7) D sc_least_form (fun vs H Q E h => ?_) (fun f cdv A outer s H vs Q E hr h => ?_)
  · obtain ⟨p, ⟨⟨u, v, rfl, _⟩, _⟩, _⟩ := h
    rfl
  · obtain ⟨p, ⟨⟨u, v, rfl, hm⟩, ok⟩, q⟩ := h
    refine ⟨_, (pss_cons (ps_expr (pe_cl c_need_model hr (by first | decide | omega) (by rfl) (pa_cons (pv 0) (pa_cons (pv 1) pa_nil))))
      (pss_cons (ps_asg (pv 1) (pg_tup (by rfl) (pgs_cons (pg_name (i := 2) sc_least_form.nd rfl (.inl rfl)) (pgs_cons (pg_name (i := 3) sc_least_form.nd rfl (.inl rfl)) pgs_nil))))
      (pss_one (ps_ret (pe_tup (pa_cons (pv 2) (pa_cons (pe_cl c_least_tables hr (by first | decide | omega) (by rfl) (pa_cons (pv 0) (pa_cons (pv 2) (pa_cons (pv 3) pa_nil)))) pa_nil))))))), ?_⟩
    replace hm : MA K H u v p := hm
    obtain ⟨b, tv, rfl, hB, hT⟩ := id hm.2
    refine q_drop (v := .non) (ev_callV p (ea_cons (ev_var rfl) (ea_cons (ev_var rfl) ea_nil)) (fun H1 e1 => ⟨⟨_, _, rfl, hm.1.ex e1, hm.2.ex e1⟩, ok.1, ok.2⟩) (fun _ _ z => z)) fun H1 e1 => ?_
    refine ⟨.ref b, rfl, b, _, rfl, ex_t e1 hB, rfl, _, _, rfl, _, _, rfl, rfl, ?_⟩
    refine s_retP (ep_tup2 (K := K) (P := fun v _ => v = vi p.2.1) (R2 := fun v H' => Tabs K H' v (least p.2.1 (ptl p.1 p.2.2))) (ep_ev (ev_var rfl) fun _ _ => rfl) (ep_call p (ea_cons (ev_var rfl) (ea_cons (ev_var rfl) (ea_cons (ev_var rfl) ea_nil))) fun H2 e2 => ⟨⟨_, _, rfl, hm.1.ex (e1.trans e2), hT.ex (e1.trans e2)⟩, ok⟩) (fun v H H' e h => h) (fun v H H' e h => h.ex e)) fun rv H2 e2 ⟨q0, x, y, ev, s, hx, hy⟩ => q _ H2 (e1.trans e2) ?_
    subst hx
    exact ⟨q0, y, ev, s, hy⟩
end
end K24
end
section
namespace K24
open PySem PySem.Spec PyProof.Rows L2 Evl RZ Dw M20 M25
section
variable {P : Program} {w : World} {K : PySem.W.Frag} {mg : Str → Option Value} {base : Heap} {σ : L2.St} {H H' : Hp} {C : Nat → Addr} {G0 : Addr}
theorem asked_is {n m : Nat} {y1 y2 y3 y4 : Option V} : EvT (tTest (tOp rEq (tVar 0) (tC (.int m)))) [some (vi n), y1, y2, y3, y4] H (decide (n = m)) := et_is (et_test (ev_op (ev_var rfl) ev_c (rv_eq rfl))) (by
  show decide (V.int (n : Int) = V.int (m : Int)) = decide (n = m)
  by_cases e : n = m
  · rw [decide_eq_true e, decide_eq_true (by rw [e])]
  · rw [decide_eq_false e, decide_eq_false (fun z => e (by
      injection z with z
      omega))])
/-- what of the calls raises -/
def CallE (K : PySem.W.Frag) (i : Nat) (vs : List V) (H : Hp) : Prop := ∃ k u m b o, vs = [vi k, u, m, b, o] ∧ ((k = 0 ∧ RnE K i [u, m, o] H) ∨ ((k = 1 ∨ k = 2 ∨ k = 3 ∨ k = 4) ∧ NmE K i [u, m] H) ∨ ((k = 5 ∨ k = 6) ∧ NtE K i [u, m, b] H) ∨ (k = 7 ∧ RbE K i [o, o] H) ∨ (k = 8 ∧ RbE K i [b, o] H))
theorem CallE.ex {i : Nat} {vs : List V} (e : Ex H H') (h : CallE K i vs H) : CallE K i vs H' := by
  obtain ⟨k, u, m, b, o, ev, h⟩ := h
  refine ⟨k, u, m, b, o, ev, ?_⟩
  rcases h with ⟨a, h⟩ | ⟨a, h⟩ | ⟨a, h⟩ | ⟨a, h⟩ | ⟨a, h⟩
  · exact .inl ⟨a, h.ex e⟩
  · exact .inr (.inl ⟨a, h.ex e⟩)
  · exact .inr (.inr (.inl ⟨a, h.ex e⟩))
  · exact .inr (.inr (.inr (.inl ⟨a, h.ex e⟩)))
  · exact .inr (.inr (.inr (.inr ⟨a, h.ex e⟩)))
theorem c_callX (T : Txt mg) (D : Df K mg "_law_call_of" s__law_call_of ["_law_way_here", "_law_signature_here", "_law_one", "_law_other", "_law_order_here"]) (c_renamedX : ClX P w K mg base 8 "renamed" (spEK C (RnE K))) (c_least_formX : ClX P w K mg base 8 "least_form" (spEK C (NmE K))) (c_own_ordersX : ClX P w K mg base 8 "own_orders" (spEK C (NmE K))) (c_renamingsX : ClX P w K mg base 8 "renamings" (spEK C (NmE K))) (c_orbitsX : ClX P w K mg base 8 "orbits" (spEK C (NmE K))) (c_likenessX : ClX P w K mg base 9 "likeness" (spEK C (NtE K))) (c_likeness_judgedX : ClX P w K mg base 9 "likeness_judged" (spEK C (fun i vs H => ∃ u v w y, vs = [u, v, w, y] ∧ NtE K i [u, v, w] H))) (c_renamed_byX : ClX P w K mg base 5 "renamed_by" (spEK C (RbE K))) : ClX P w K mg base 10 "_law_call_of" (spEK C (CallE K)) := by
  refine clx_of (k := 9) D sc__law_call_of (fun vs H Q E h => ?_) (fun f cdv A outer s H vs Q E hr h => ?_)
  · obtain ⟨i, _, ⟨k, u, m, b, o, rfl, _⟩, _⟩ := h
    rfl
  · obtain ⟨i, i3, ⟨k, u, m, b, o, rfl, h⟩, q⟩ := h
    rcases h with ⟨rfl, h⟩ | ⟨rfl | rfl | rfl | rfl, h⟩ | ⟨rfl | rfl, h⟩ | ⟨rfl, h⟩ | ⟨rfl, h⟩
    · refine ⟨_, (pss_cons (ps_if (pt_cmpR op_eq (pv 0) pe_int (nomark _))
        (pss_one (ps_expr (pe_clX c_renamedX (takes_of rfl rfl rfl rfl) hr (by first | decide | omega) (by rfl) (pa_cons (pv 1) (pa_cons (pv 2) (pa_cons (pv 4) pa_nil))))))
        pss_nil)
      (pss_cons (ps_if (pt_cmpR op_eq (pv 0) pe_int (nomark _))
        (pss_one (ps_never))
        pss_nil)
      (pss_cons (ps_if (pt_cmpR op_eq (pv 0) pe_int (nomark _))
        (pss_one (ps_never))
        pss_nil)
      (pss_cons (ps_if (pt_cmpR op_eq (pv 0) pe_int (nomark _))
        (pss_one (ps_never))
        pss_nil)
      (pss_cons (ps_if (pt_cmpR op_eq (pv 0) pe_int (nomark _))
        (pss_one (ps_never))
        pss_nil)
      (pss_cons (ps_if (pt_cmpR op_eq (pv 0) pe_int (nomark _))
        (pss_one (ps_never))
        pss_nil)
      (pss_cons (ps_if (pt_cmpR op_eq (pv 0) pe_int (nomark _))
        (pss_one (ps_never))
        pss_nil)
      (pss_cons (ps_if (pt_cmpR op_eq (pv 0) pe_int (nomark _))
        (pss_one (ps_never))
        pss_nil)
      (pss_one (ps_if (pt_cmpR op_eq (pv 0) pe_int (nomark _))
        (pss_one (ps_never))
        pss_nil)))))))))), ?_⟩
      refine q_when (b := true) asked_is (fun _ H1 e1 => ?_) (fun hb => by cases hb)
      have g := e1
      exact do_callS ((ea_cons (ev_var rfl) (ea_cons (ev_var rfl) (ea_cons (ev_var rfl) ea_nil))) H1 (Ex.refl _) _ fun I1 f1 => ⟨i, i3, h.ex (g.trans f1), fun I2 f2 => q I2 ((g.trans f1).trans f2)⟩)
    · refine ⟨_, (pss_cons (ps_if (pt_cmpR op_eq (pv 0) pe_int (nomark _))
        (pss_one (ps_never))
        pss_nil)
      (pss_cons (ps_if (pt_cmpR op_eq (pv 0) pe_int (nomark _))
        (pss_one (ps_expr (pe_clX c_least_formX (takes_of rfl rfl rfl rfl) hr (by first | decide | omega) (by rfl) (pa_cons (pv 1) (pa_cons (pv 2) pa_nil)))))
        pss_nil)
      (pss_cons (ps_if (pt_cmpR op_eq (pv 0) pe_int (nomark _))
        (pss_one (ps_never))
        pss_nil)
      (pss_cons (ps_if (pt_cmpR op_eq (pv 0) pe_int (nomark _))
        (pss_one (ps_never))
        pss_nil)
      (pss_cons (ps_if (pt_cmpR op_eq (pv 0) pe_int (nomark _))
        (pss_one (ps_never))
        pss_nil)
      (pss_cons (ps_if (pt_cmpR op_eq (pv 0) pe_int (nomark _))
        (pss_one (ps_never))
        pss_nil)
      (pss_cons (ps_if (pt_cmpR op_eq (pv 0) pe_int (nomark _))
        (pss_one (ps_never))
        pss_nil)
      (pss_cons (ps_if (pt_cmpR op_eq (pv 0) pe_int (nomark _))
        (pss_one (ps_never))
        pss_nil)
      (pss_one (ps_if (pt_cmpR op_eq (pv 0) pe_int (nomark _))
        (pss_one (ps_never))
        pss_nil)))))))))), ?_⟩
      refine q_when (b := false) asked_is (fun hb => by cases hb) (fun _ H1 e1 => ?_)
      refine q_when (b := true) asked_is (fun _ H2 e2 => ?_) (fun hb => by cases hb)
      have g := (e1).trans e2
      exact do_callS ((ea_cons (ev_var rfl) (ea_cons (ev_var rfl) ea_nil)) H2 (Ex.refl _) _ fun I1 f1 => ⟨i, i3, h.ex (g.trans f1), fun I2 f2 => q I2 ((g.trans f1).trans f2)⟩)
    · refine ⟨_, (pss_cons (ps_if (pt_cmpR op_eq (pv 0) pe_int (nomark _))
        (pss_one (ps_never))
        pss_nil)
      (pss_cons (ps_if (pt_cmpR op_eq (pv 0) pe_int (nomark _))
        (pss_one (ps_never))
        pss_nil)
      (pss_cons (ps_if (pt_cmpR op_eq (pv 0) pe_int (nomark _))
        (pss_one (ps_expr (pe_clX c_own_ordersX (takes_of rfl rfl rfl rfl) hr (by first | decide | omega) (by rfl) (pa_cons (pv 1) (pa_cons (pv 2) pa_nil)))))
        pss_nil)
      (pss_cons (ps_if (pt_cmpR op_eq (pv 0) pe_int (nomark _))
        (pss_one (ps_never))
        pss_nil)
      (pss_cons (ps_if (pt_cmpR op_eq (pv 0) pe_int (nomark _))
        (pss_one (ps_never))
        pss_nil)
      (pss_cons (ps_if (pt_cmpR op_eq (pv 0) pe_int (nomark _))
        (pss_one (ps_never))
        pss_nil)
      (pss_cons (ps_if (pt_cmpR op_eq (pv 0) pe_int (nomark _))
        (pss_one (ps_never))
        pss_nil)
      (pss_cons (ps_if (pt_cmpR op_eq (pv 0) pe_int (nomark _))
        (pss_one (ps_never))
        pss_nil)
      (pss_one (ps_if (pt_cmpR op_eq (pv 0) pe_int (nomark _))
        (pss_one (ps_never))
        pss_nil)))))))))), ?_⟩
      refine q_when (b := false) asked_is (fun hb => by cases hb) (fun _ H1 e1 => ?_)
      refine q_when (b := false) asked_is (fun hb => by cases hb) (fun _ H2 e2 => ?_)
      refine q_when (b := true) asked_is (fun _ H3 e3 => ?_) (fun hb => by cases hb)
      have g := ((e1).trans e2).trans e3
      exact do_callS ((ea_cons (ev_var rfl) (ea_cons (ev_var rfl) ea_nil)) H3 (Ex.refl _) _ fun I1 f1 => ⟨i, i3, h.ex (g.trans f1), fun I2 f2 => q I2 ((g.trans f1).trans f2)⟩)
    · refine ⟨_, (pss_cons (ps_if (pt_cmpR op_eq (pv 0) pe_int (nomark _))
        (pss_one (ps_never))
        pss_nil)
      (pss_cons (ps_if (pt_cmpR op_eq (pv 0) pe_int (nomark _))
        (pss_one (ps_never))
        pss_nil)
      (pss_cons (ps_if (pt_cmpR op_eq (pv 0) pe_int (nomark _))
        (pss_one (ps_never))
        pss_nil)
      (pss_cons (ps_if (pt_cmpR op_eq (pv 0) pe_int (nomark _))
        (pss_one (ps_expr (pe_clX c_renamingsX (takes_of rfl rfl rfl rfl) hr (by first | decide | omega) (by rfl) (pa_cons (pv 1) (pa_cons (pv 2) pa_nil)))))
        pss_nil)
      (pss_cons (ps_if (pt_cmpR op_eq (pv 0) pe_int (nomark _))
        (pss_one (ps_never))
        pss_nil)
      (pss_cons (ps_if (pt_cmpR op_eq (pv 0) pe_int (nomark _))
        (pss_one (ps_never))
        pss_nil)
      (pss_cons (ps_if (pt_cmpR op_eq (pv 0) pe_int (nomark _))
        (pss_one (ps_never))
        pss_nil)
      (pss_cons (ps_if (pt_cmpR op_eq (pv 0) pe_int (nomark _))
        (pss_one (ps_never))
        pss_nil)
      (pss_one (ps_if (pt_cmpR op_eq (pv 0) pe_int (nomark _))
        (pss_one (ps_never))
        pss_nil)))))))))), ?_⟩
      refine q_when (b := false) asked_is (fun hb => by cases hb) (fun _ H1 e1 => ?_)
      refine q_when (b := false) asked_is (fun hb => by cases hb) (fun _ H2 e2 => ?_)
      refine q_when (b := false) asked_is (fun hb => by cases hb) (fun _ H3 e3 => ?_)
      refine q_when (b := true) asked_is (fun _ H4 e4 => ?_) (fun hb => by cases hb)
      have g := (((e1).trans e2).trans e3).trans e4
      exact do_callS ((ea_cons (ev_var rfl) (ea_cons (ev_var rfl) ea_nil)) H4 (Ex.refl _) _ fun I1 f1 => ⟨i, i3, h.ex (g.trans f1), fun I2 f2 => q I2 ((g.trans f1).trans f2)⟩)
    · refine ⟨_, (pss_cons (ps_if (pt_cmpR op_eq (pv 0) pe_int (nomark _))
        (pss_one (ps_never))
        pss_nil)
      (pss_cons (ps_if (pt_cmpR op_eq (pv 0) pe_int (nomark _))
        (pss_one (ps_never))
        pss_nil)
      (pss_cons (ps_if (pt_cmpR op_eq (pv 0) pe_int (nomark _))
        (pss_one (ps_never))
        pss_nil)
      (pss_cons (ps_if (pt_cmpR op_eq (pv 0) pe_int (nomark _))
        (pss_one (ps_never))
        pss_nil)
      (pss_cons (ps_if (pt_cmpR op_eq (pv 0) pe_int (nomark _))
        (pss_one (ps_expr (pe_clX c_orbitsX (takes_of rfl rfl rfl rfl) hr (by first | decide | omega) (by rfl) (pa_cons (pv 1) (pa_cons (pv 2) pa_nil)))))
        pss_nil)
      (pss_cons (ps_if (pt_cmpR op_eq (pv 0) pe_int (nomark _))
        (pss_one (ps_never))
        pss_nil)
      (pss_cons (ps_if (pt_cmpR op_eq (pv 0) pe_int (nomark _))
        (pss_one (ps_never))
        pss_nil)
      (pss_cons (ps_if (pt_cmpR op_eq (pv 0) pe_int (nomark _))
        (pss_one (ps_never))
        pss_nil)
      (pss_one (ps_if (pt_cmpR op_eq (pv 0) pe_int (nomark _))
        (pss_one (ps_never))
        pss_nil)))))))))), ?_⟩
      refine q_when (b := false) asked_is (fun hb => by cases hb) (fun _ H1 e1 => ?_)
      refine q_when (b := false) asked_is (fun hb => by cases hb) (fun _ H2 e2 => ?_)
      refine q_when (b := false) asked_is (fun hb => by cases hb) (fun _ H3 e3 => ?_)
      refine q_when (b := false) asked_is (fun hb => by cases hb) (fun _ H4 e4 => ?_)
      refine q_when (b := true) asked_is (fun _ H5 e5 => ?_) (fun hb => by cases hb)
      have g := ((((e1).trans e2).trans e3).trans e4).trans e5
      exact do_callS ((ea_cons (ev_var rfl) (ea_cons (ev_var rfl) ea_nil)) H5 (Ex.refl _) _ fun I1 f1 => ⟨i, i3, h.ex (g.trans f1), fun I2 f2 => q I2 ((g.trans f1).trans f2)⟩)
    · refine ⟨_, (pss_cons (ps_if (pt_cmpR op_eq (pv 0) pe_int (nomark _))
        (pss_one (ps_never))
        pss_nil)
      (pss_cons (ps_if (pt_cmpR op_eq (pv 0) pe_int (nomark _))
        (pss_one (ps_never))
        pss_nil)
      (pss_cons (ps_if (pt_cmpR op_eq (pv 0) pe_int (nomark _))
        (pss_one (ps_never))
        pss_nil)
      (pss_cons (ps_if (pt_cmpR op_eq (pv 0) pe_int (nomark _))
        (pss_one (ps_never))
        pss_nil)
      (pss_cons (ps_if (pt_cmpR op_eq (pv 0) pe_int (nomark _))
        (pss_one (ps_never))
        pss_nil)
      (pss_cons (ps_if (pt_cmpR op_eq (pv 0) pe_int (nomark _))
        (pss_one (ps_expr (pe_clX c_likenessX (takes_of rfl rfl rfl rfl) hr (by first | decide | omega) (by rfl) (pa_cons (pv 1) (pa_cons (pv 2) (pa_cons (pv 3) pa_nil))))))
        pss_nil)
      (pss_cons (ps_if (pt_cmpR op_eq (pv 0) pe_int (nomark _))
        (pss_one (ps_never))
        pss_nil)
      (pss_cons (ps_if (pt_cmpR op_eq (pv 0) pe_int (nomark _))
        (pss_one (ps_never))
        pss_nil)
      (pss_one (ps_if (pt_cmpR op_eq (pv 0) pe_int (nomark _))
        (pss_one (ps_never))
        pss_nil)))))))))), ?_⟩
      refine q_when (b := false) asked_is (fun hb => by cases hb) (fun _ H1 e1 => ?_)
      refine q_when (b := false) asked_is (fun hb => by cases hb) (fun _ H2 e2 => ?_)
      refine q_when (b := false) asked_is (fun hb => by cases hb) (fun _ H3 e3 => ?_)
      refine q_when (b := false) asked_is (fun hb => by cases hb) (fun _ H4 e4 => ?_)
      refine q_when (b := false) asked_is (fun hb => by cases hb) (fun _ H5 e5 => ?_)
      refine q_when (b := true) asked_is (fun _ H6 e6 => ?_) (fun hb => by cases hb)
      have g := (((((e1).trans e2).trans e3).trans e4).trans e5).trans e6
      exact do_callS ((ea_cons (ev_var rfl) (ea_cons (ev_var rfl) (ea_cons (ev_var rfl) ea_nil))) H6 (Ex.refl _) _ fun I1 f1 => ⟨i, i3, h.ex (g.trans f1), fun I2 f2 => q I2 ((g.trans f1).trans f2)⟩)
    · refine ⟨_, (pss_cons (ps_if (pt_cmpR op_eq (pv 0) pe_int (nomark _))
        (pss_one (ps_never))
        pss_nil)
      (pss_cons (ps_if (pt_cmpR op_eq (pv 0) pe_int (nomark _))
        (pss_one (ps_never))
        pss_nil)
      (pss_cons (ps_if (pt_cmpR op_eq (pv 0) pe_int (nomark _))
        (pss_one (ps_never))
        pss_nil)
      (pss_cons (ps_if (pt_cmpR op_eq (pv 0) pe_int (nomark _))
        (pss_one (ps_never))
        pss_nil)
      (pss_cons (ps_if (pt_cmpR op_eq (pv 0) pe_int (nomark _))
        (pss_one (ps_never))
        pss_nil)
      (pss_cons (ps_if (pt_cmpR op_eq (pv 0) pe_int (nomark _))
        (pss_one (ps_never))
        pss_nil)
      (pss_cons (ps_if (pt_cmpR op_eq (pv 0) pe_int (nomark _))
        (pss_one (ps_expr (pe_clX c_likeness_judgedX (takes_of rfl rfl rfl rfl) hr (by first | decide | omega) (by rfl) (pa_cons (pv 1) (pa_cons (pv 2) (pa_cons (pv 3) (pa_cons pe_non pa_nil)))))))
        pss_nil)
      (pss_cons (ps_if (pt_cmpR op_eq (pv 0) pe_int (nomark _))
        (pss_one (ps_never))
        pss_nil)
      (pss_one (ps_if (pt_cmpR op_eq (pv 0) pe_int (nomark _))
        (pss_one (ps_never))
        pss_nil)))))))))), ?_⟩
      refine q_when (b := false) asked_is (fun hb => by cases hb) (fun _ H1 e1 => ?_)
      refine q_when (b := false) asked_is (fun hb => by cases hb) (fun _ H2 e2 => ?_)
      refine q_when (b := false) asked_is (fun hb => by cases hb) (fun _ H3 e3 => ?_)
      refine q_when (b := false) asked_is (fun hb => by cases hb) (fun _ H4 e4 => ?_)
      refine q_when (b := false) asked_is (fun hb => by cases hb) (fun _ H5 e5 => ?_)
      refine q_when (b := false) asked_is (fun hb => by cases hb) (fun _ H6 e6 => ?_)
      refine q_when (b := true) asked_is (fun _ H7 e7 => ?_) (fun hb => by cases hb)
      have g := ((((((e1).trans e2).trans e3).trans e4).trans e5).trans e6).trans e7
      exact do_callS ((ea_cons (ev_var rfl) (ea_cons (ev_var rfl) (ea_cons (ev_var rfl) (ea_cons ev_c ea_nil)))) H7 (Ex.refl _) _ fun I1 f1 => ⟨i, i3, ⟨_, _, _, _, rfl, h.ex (g.trans f1)⟩, fun I2 f2 => q I2 ((g.trans f1).trans f2)⟩)
    · refine ⟨_, (pss_cons (ps_if (pt_cmpR op_eq (pv 0) pe_int (nomark _))
        (pss_one (ps_never))
        pss_nil)
      (pss_cons (ps_if (pt_cmpR op_eq (pv 0) pe_int (nomark _))
        (pss_one (ps_never))
        pss_nil)
      (pss_cons (ps_if (pt_cmpR op_eq (pv 0) pe_int (nomark _))
        (pss_one (ps_never))
        pss_nil)
      (pss_cons (ps_if (pt_cmpR op_eq (pv 0) pe_int (nomark _))
        (pss_one (ps_never))
        pss_nil)
      (pss_cons (ps_if (pt_cmpR op_eq (pv 0) pe_int (nomark _))
        (pss_one (ps_never))
        pss_nil)
      (pss_cons (ps_if (pt_cmpR op_eq (pv 0) pe_int (nomark _))
        (pss_one (ps_never))
        pss_nil)
      (pss_cons (ps_if (pt_cmpR op_eq (pv 0) pe_int (nomark _))
        (pss_one (ps_never))
        pss_nil)
      (pss_cons (ps_if (pt_cmpR op_eq (pv 0) pe_int (nomark _))
        (pss_one (ps_expr (pe_clX c_renamed_byX (takes_of rfl rfl rfl rfl) hr (by first | decide | omega) (by rfl) (pa_cons (pv 4) (pa_cons (pv 4) pa_nil)))))
        pss_nil)
      (pss_one (ps_if (pt_cmpR op_eq (pv 0) pe_int (nomark _))
        (pss_one (ps_never))
        pss_nil)))))))))), ?_⟩
      refine q_when (b := false) asked_is (fun hb => by cases hb) (fun _ H1 e1 => ?_)
      refine q_when (b := false) asked_is (fun hb => by cases hb) (fun _ H2 e2 => ?_)
      refine q_when (b := false) asked_is (fun hb => by cases hb) (fun _ H3 e3 => ?_)
      refine q_when (b := false) asked_is (fun hb => by cases hb) (fun _ H4 e4 => ?_)
      refine q_when (b := false) asked_is (fun hb => by cases hb) (fun _ H5 e5 => ?_)
      refine q_when (b := false) asked_is (fun hb => by cases hb) (fun _ H6 e6 => ?_)
      refine q_when (b := false) asked_is (fun hb => by cases hb) (fun _ H7 e7 => ?_)
      refine q_when (b := true) asked_is (fun _ H8 e8 => ?_) (fun hb => by cases hb)
      have g := (((((((e1).trans e2).trans e3).trans e4).trans e5).trans e6).trans e7).trans e8
      exact do_callS ((ea_cons (ev_var rfl) (ea_cons (ev_var rfl) ea_nil)) H8 (Ex.refl _) _ fun I1 f1 => ⟨i, i3, h.ex (g.trans f1), fun I2 f2 => q I2 ((g.trans f1).trans f2)⟩)
    · refine ⟨_, (pss_cons (ps_if (pt_cmpR op_eq (pv 0) pe_int (nomark _))
        (pss_one (ps_never))
        pss_nil)
      (pss_cons (ps_if (pt_cmpR op_eq (pv 0) pe_int (nomark _))
        (pss_one (ps_never))
        pss_nil)
      (pss_cons (ps_if (pt_cmpR op_eq (pv 0) pe_int (nomark _))
        (pss_one (ps_never))
        pss_nil)
      (pss_cons (ps_if (pt_cmpR op_eq (pv 0) pe_int (nomark _))
        (pss_one (ps_never))
        pss_nil)
      (pss_cons (ps_if (pt_cmpR op_eq (pv 0) pe_int (nomark _))
        (pss_one (ps_never))
        pss_nil)
      (pss_cons (ps_if (pt_cmpR op_eq (pv 0) pe_int (nomark _))
        (pss_one (ps_never))
        pss_nil)
      (pss_cons (ps_if (pt_cmpR op_eq (pv 0) pe_int (nomark _))
        (pss_one (ps_never))
        pss_nil)
      (pss_cons (ps_if (pt_cmpR op_eq (pv 0) pe_int (nomark _))
        (pss_one (ps_never))
        pss_nil)
      (pss_one (ps_if (pt_cmpR op_eq (pv 0) pe_int (nomark _))
        (pss_one (ps_expr (pe_clX c_renamed_byX (takes_of rfl rfl rfl rfl) hr (by first | decide | omega) (by rfl) (pa_cons (pv 3) (pa_cons (pv 4) pa_nil)))))
        pss_nil)))))))))), ?_⟩
      refine q_when (b := false) asked_is (fun hb => by cases hb) (fun _ H1 e1 => ?_)
      refine q_when (b := false) asked_is (fun hb => by cases hb) (fun _ H2 e2 => ?_)
      refine q_when (b := false) asked_is (fun hb => by cases hb) (fun _ H3 e3 => ?_)
      refine q_when (b := false) asked_is (fun hb => by cases hb) (fun _ H4 e4 => ?_)
      refine q_when (b := false) asked_is (fun hb => by cases hb) (fun _ H5 e5 => ?_)
      refine q_when (b := false) asked_is (fun hb => by cases hb) (fun _ H6 e6 => ?_)
      refine q_when (b := false) asked_is (fun hb => by cases hb) (fun _ H7 e7 => ?_)
      refine q_when (b := false) asked_is (fun hb => by cases hb) (fun _ H8 e8 => ?_)
      refine s_when (b := true) asked_is (fun _ H9 e9 => ?_) (fun hb => by cases hb)
      have g := ((((((((e1).trans e2).trans e3).trans e4).trans e5).trans e6).trans e7).trans e8).trans e9
      exact do_callS ((ea_cons (ev_var rfl) (ea_cons (ev_var rfl) ea_nil)) H9 (Ex.refl _) _ fun I1 f1 => ⟨i, i3, h.ex (g.trans f1), fun I2 f2 => q I2 ((g.trans f1).trans f2)⟩)
/-- what is let by -/
def CallG (K : PySem.W.Frag) (vs : List V) (H : Hp) : Prop := ∃ k u m b o, vs = [vi k, u, m, b, o] ∧ ((k ≤ 6 ∧ ∃ (p p2 : MArg) (r : List Nat), MA K H u m p ∧ Mdl K H b p2.2.1 p2.2.2 ∧ Pair2 p p2 ∧ Nats K H o r ∧ M20.Ord p.2.1 r) ∨ (k = 7 ∧ ∃ (n : Nat) (r : List Nat), Nats K H o r ∧ M20.Ord n r ∧ n ≤ 6))
theorem CallG.ex {vs : List V} (e : Ex H H') (h : CallG K vs H) : CallG K vs H' := by
  obtain ⟨k, u, m, b, o, ev, h⟩ := h
  refine ⟨k, u, m, b, o, ev, ?_⟩
  rcases h with ⟨a, p, p2, r, x, y, z, n, t⟩ | ⟨a, n, r, x, y⟩
  · exact .inl ⟨a, p, p2, r, x.ex e, y.ex e, z, n.ex e, t⟩
  · exact .inr ⟨a, n, r, x.ex e, y⟩
theorem c_callG (T : Txt mg) (D : Df K mg "_law_call_of" s__law_call_of ["_law_way_here", "_law_signature_here", "_law_one", "_law_other", "_law_order_here"]) (c_renamed : Cl P w K mg base 8 "renamed" (sp_renamed K)) (c_least_form : Cl P w K mg base 8 "least_form" (sp_least_form K)) (c_own_orders : Cl P w K mg base 8 "own_orders" (sp_own_orders_of K)) (c_renamings : Cl P w K mg base 8 "renamings" (sp_renamings K)) (c_orbits : Cl P w K mg base 8 "orbits" (sp_orbits K)) (c_likeness : Cl P w K mg base 12 "likeness" (sp_likeness K)) (c_judgedN : Cl P w K mg base 9 "likeness_judged" (spX (fun (x : MArg × MArg) vs H => (∃ u v w, vs = [u, v, w, .non] ∧ MA K H u v x.1 ∧ Mdl K H w x.2.2.1 x.2.2.2) ∧ Pair2 x.1 x.2) (fun _ _ _ => True))) (c_renamed_by : Cl P w K mg base 5 "renamed_by" (sp_composed K)) : Cl P w K mg base 13 "_law_call_of" (spX (fun (_ : Unit) => CallG K) (fun _ v _ => v = .non)) := by
  refine cl_of (k := 12) D sc__law_call_of (fun vs H Q E h => ?_) (fun f cdv A outer s H vs Q E hr h => ?_)
  · obtain ⟨_, ⟨k, u, m, b, o, rfl, _⟩, _⟩ := h
    rfl
  · obtain ⟨_, ⟨k, u, m, b, o, rfl, h⟩, q⟩ := h
    rcases h with ⟨k6, p, p2, r, hm, hb0, pr, ho, od⟩ | ⟨rfl, n, r, ho, od, n6⟩
    · have all : k = 0 ∨ k = 1 ∨ k = 2 ∨ k = 3 ∨ k = 4 ∨ k = 5 ∨ k = 6 := by omega
      have sok : SigOk p.1 := pr.ok.1
      have mok : MdlOk p.1 p.2.1 p.2.2 := pr.ok.2
      rcases all with rfl | rfl | rfl | rfl | rfl | rfl | rfl
      · have c_good := c_renamed
        refine ⟨_, (pss_cons (ps_if (pt_cmpR op_eq (pv 0) pe_int (nomark _))
        (pss_one (ps_expr (pe_cl c_good hr (by first | decide | omega) (by rfl) (pa_cons (pv 1) (pa_cons (pv 2) (pa_cons (pv 4) pa_nil))))))
        pss_nil)
      (pss_cons (ps_if (pt_cmpR op_eq (pv 0) pe_int (nomark _))
        (pss_one (ps_never))
        pss_nil)
      (pss_cons (ps_if (pt_cmpR op_eq (pv 0) pe_int (nomark _))
        (pss_one (ps_never))
        pss_nil)
      (pss_cons (ps_if (pt_cmpR op_eq (pv 0) pe_int (nomark _))
        (pss_one (ps_never))
        pss_nil)
      (pss_cons (ps_if (pt_cmpR op_eq (pv 0) pe_int (nomark _))
        (pss_one (ps_never))
        pss_nil)
      (pss_cons (ps_if (pt_cmpR op_eq (pv 0) pe_int (nomark _))
        (pss_one (ps_never))
        pss_nil)
      (pss_cons (ps_if (pt_cmpR op_eq (pv 0) pe_int (nomark _))
        (pss_one (ps_never))
        pss_nil)
      (pss_cons (ps_if (pt_cmpR op_eq (pv 0) pe_int (nomark _))
        (pss_one (ps_never))
        pss_nil)
      (pss_one (ps_if (pt_cmpR op_eq (pv 0) pe_int (nomark _))
        (pss_one (ps_never))
        pss_nil)))))))))), ?_⟩
        refine q_when (b := true) asked_is (fun _ H1 e1 => ?_) (fun hb => by cases hb)
        have g := e1
        refine s_dropP (ep_call (p.1, p.2.1, p.2.2, r) (ea_cons (ev_var rfl) (ea_cons (ev_var rfl) (ea_cons (ev_var rfl) ea_nil))) fun I1 f1 => ⟨⟨_, _, _, rfl, hm.1.ex (g.trans f1), hm.2.ex (g.trans f1), ho.ex (g.trans f1)⟩, sok, mok, od⟩) fun _ I2 i2 _ => ?_
        dsimp only
        refine q_when (b := false) asked_is (fun hb => by cases hb) (fun _ L1 t1 => ?_)
        refine q_when (b := false) asked_is (fun hb => by cases hb) (fun _ L2 t2 => ?_)
        refine q_when (b := false) asked_is (fun hb => by cases hb) (fun _ L3 t3 => ?_)
        refine q_when (b := false) asked_is (fun hb => by cases hb) (fun _ L4 t4 => ?_)
        refine q_when (b := false) asked_is (fun hb => by cases hb) (fun _ L5 t5 => ?_)
        refine q_when (b := false) asked_is (fun hb => by cases hb) (fun _ L6 t6 => ?_)
        refine q_when (b := false) asked_is (fun hb => by cases hb) (fun _ L7 t7 => ?_)
        refine s_when (b := false) asked_is (fun hb => by cases hb) (fun _ L8 t8 => ?_)
        exact q _ _ ((((((((((g).trans i2).trans t1).trans t2).trans t3).trans t4).trans t5).trans t6).trans t7).trans t8) rfl
      · have c_good := c_least_form
        refine ⟨_, (pss_cons (ps_if (pt_cmpR op_eq (pv 0) pe_int (nomark _))
        (pss_one (ps_never))
        pss_nil)
      (pss_cons (ps_if (pt_cmpR op_eq (pv 0) pe_int (nomark _))
        (pss_one (ps_expr (pe_cl c_good hr (by first | decide | omega) (by rfl) (pa_cons (pv 1) (pa_cons (pv 2) pa_nil)))))
        pss_nil)
      (pss_cons (ps_if (pt_cmpR op_eq (pv 0) pe_int (nomark _))
        (pss_one (ps_never))
        pss_nil)
      (pss_cons (ps_if (pt_cmpR op_eq (pv 0) pe_int (nomark _))
        (pss_one (ps_never))
        pss_nil)
      (pss_cons (ps_if (pt_cmpR op_eq (pv 0) pe_int (nomark _))
        (pss_one (ps_never))
        pss_nil)
      (pss_cons (ps_if (pt_cmpR op_eq (pv 0) pe_int (nomark _))
        (pss_one (ps_never))
        pss_nil)
      (pss_cons (ps_if (pt_cmpR op_eq (pv 0) pe_int (nomark _))
        (pss_one (ps_never))
        pss_nil)
      (pss_cons (ps_if (pt_cmpR op_eq (pv 0) pe_int (nomark _))
        (pss_one (ps_never))
        pss_nil)
      (pss_one (ps_if (pt_cmpR op_eq (pv 0) pe_int (nomark _))
        (pss_one (ps_never))
        pss_nil)))))))))), ?_⟩
        refine q_when (b := false) asked_is (fun hb => by cases hb) (fun _ H1 e1 => ?_)
        refine q_when (b := true) asked_is (fun _ H2 e2 => ?_) (fun hb => by cases hb)
        have g := (e1).trans e2
        refine s_dropP (ep_call p (ea_cons (ev_var rfl) (ea_cons (ev_var rfl) ea_nil)) fun I1 f1 => ⟨⟨_, _, rfl, hm.ex (g.trans f1)⟩, pr.ok⟩) fun _ I2 i2 _ => ?_
        dsimp only
        refine q_when (b := false) asked_is (fun hb => by cases hb) (fun _ L2 t2 => ?_)
        refine q_when (b := false) asked_is (fun hb => by cases hb) (fun _ L3 t3 => ?_)
        refine q_when (b := false) asked_is (fun hb => by cases hb) (fun _ L4 t4 => ?_)
        refine q_when (b := false) asked_is (fun hb => by cases hb) (fun _ L5 t5 => ?_)
        refine q_when (b := false) asked_is (fun hb => by cases hb) (fun _ L6 t6 => ?_)
        refine q_when (b := false) asked_is (fun hb => by cases hb) (fun _ L7 t7 => ?_)
        refine s_when (b := false) asked_is (fun hb => by cases hb) (fun _ L8 t8 => ?_)
        exact q _ _ (((((((((g).trans i2).trans t2).trans t3).trans t4).trans t5).trans t6).trans t7).trans t8) rfl
      · have c_good := c_own_orders
        refine ⟨_, (pss_cons (ps_if (pt_cmpR op_eq (pv 0) pe_int (nomark _))
        (pss_one (ps_never))
        pss_nil)
      (pss_cons (ps_if (pt_cmpR op_eq (pv 0) pe_int (nomark _))
        (pss_one (ps_never))
        pss_nil)
      (pss_cons (ps_if (pt_cmpR op_eq (pv 0) pe_int (nomark _))
        (pss_one (ps_expr (pe_cl c_good hr (by first | decide | omega) (by rfl) (pa_cons (pv 1) (pa_cons (pv 2) pa_nil)))))
        pss_nil)
      (pss_cons (ps_if (pt_cmpR op_eq (pv 0) pe_int (nomark _))
        (pss_one (ps_never))
        pss_nil)
      (pss_cons (ps_if (pt_cmpR op_eq (pv 0) pe_int (nomark _))
        (pss_one (ps_never))
        pss_nil)
      (pss_cons (ps_if (pt_cmpR op_eq (pv 0) pe_int (nomark _))
        (pss_one (ps_never))
        pss_nil)
      (pss_cons (ps_if (pt_cmpR op_eq (pv 0) pe_int (nomark _))
        (pss_one (ps_never))
        pss_nil)
      (pss_cons (ps_if (pt_cmpR op_eq (pv 0) pe_int (nomark _))
        (pss_one (ps_never))
        pss_nil)
      (pss_one (ps_if (pt_cmpR op_eq (pv 0) pe_int (nomark _))
        (pss_one (ps_never))
        pss_nil)))))))))), ?_⟩
        refine q_when (b := false) asked_is (fun hb => by cases hb) (fun _ H1 e1 => ?_)
        refine q_when (b := false) asked_is (fun hb => by cases hb) (fun _ H2 e2 => ?_)
        refine q_when (b := true) asked_is (fun _ H3 e3 => ?_) (fun hb => by cases hb)
        have g := ((e1).trans e2).trans e3
        refine s_dropP (ep_callG (P := fun _ _ => True) p (ea_cons (ev_var rfl) (ea_cons (ev_var rfl) ea_nil)) (fun I1 f1 => ⟨⟨_, _, rfl, hm.1.ex (g.trans f1), hm.2.ex (g.trans f1)⟩, sok, mok⟩) (fun _ _ _ _ _ _ => trivial)) fun _ I2 i2 _ => ?_
        dsimp only
        refine q_when (b := false) asked_is (fun hb => by cases hb) (fun _ L3 t3 => ?_)
        refine q_when (b := false) asked_is (fun hb => by cases hb) (fun _ L4 t4 => ?_)
        refine q_when (b := false) asked_is (fun hb => by cases hb) (fun _ L5 t5 => ?_)
        refine q_when (b := false) asked_is (fun hb => by cases hb) (fun _ L6 t6 => ?_)
        refine q_when (b := false) asked_is (fun hb => by cases hb) (fun _ L7 t7 => ?_)
        refine s_when (b := false) asked_is (fun hb => by cases hb) (fun _ L8 t8 => ?_)
        exact q _ _ ((((((((g).trans i2).trans t3).trans t4).trans t5).trans t6).trans t7).trans t8) rfl
      · have c_good := c_renamings
        refine ⟨_, (pss_cons (ps_if (pt_cmpR op_eq (pv 0) pe_int (nomark _))
        (pss_one (ps_never))
        pss_nil)
      (pss_cons (ps_if (pt_cmpR op_eq (pv 0) pe_int (nomark _))
        (pss_one (ps_never))
        pss_nil)
      (pss_cons (ps_if (pt_cmpR op_eq (pv 0) pe_int (nomark _))
        (pss_one (ps_never))
        pss_nil)
      (pss_cons (ps_if (pt_cmpR op_eq (pv 0) pe_int (nomark _))
        (pss_one (ps_expr (pe_cl c_good hr (by first | decide | omega) (by rfl) (pa_cons (pv 1) (pa_cons (pv 2) pa_nil)))))
        pss_nil)
      (pss_cons (ps_if (pt_cmpR op_eq (pv 0) pe_int (nomark _))
        (pss_one (ps_never))
        pss_nil)
      (pss_cons (ps_if (pt_cmpR op_eq (pv 0) pe_int (nomark _))
        (pss_one (ps_never))
        pss_nil)
      (pss_cons (ps_if (pt_cmpR op_eq (pv 0) pe_int (nomark _))
        (pss_one (ps_never))
        pss_nil)
      (pss_cons (ps_if (pt_cmpR op_eq (pv 0) pe_int (nomark _))
        (pss_one (ps_never))
        pss_nil)
      (pss_one (ps_if (pt_cmpR op_eq (pv 0) pe_int (nomark _))
        (pss_one (ps_never))
        pss_nil)))))))))), ?_⟩
        refine q_when (b := false) asked_is (fun hb => by cases hb) (fun _ H1 e1 => ?_)
        refine q_when (b := false) asked_is (fun hb => by cases hb) (fun _ H2 e2 => ?_)
        refine q_when (b := false) asked_is (fun hb => by cases hb) (fun _ H3 e3 => ?_)
        refine q_when (b := true) asked_is (fun _ H4 e4 => ?_) (fun hb => by cases hb)
        have g := (((e1).trans e2).trans e3).trans e4
        refine s_dropP ((ep_call p (ea_cons (ev_var rfl) (ea_cons (ev_var rfl) ea_nil)) fun I1 f1 => ⟨⟨_, _, rfl, hm.1.ex (g.trans f1), hm.2.ex (g.trans f1)⟩, sok, mok⟩)) fun _ I2 i2 _ => ?_
        dsimp only
        refine q_when (b := false) asked_is (fun hb => by cases hb) (fun _ L4 t4 => ?_)
        refine q_when (b := false) asked_is (fun hb => by cases hb) (fun _ L5 t5 => ?_)
        refine q_when (b := false) asked_is (fun hb => by cases hb) (fun _ L6 t6 => ?_)
        refine q_when (b := false) asked_is (fun hb => by cases hb) (fun _ L7 t7 => ?_)
        refine s_when (b := false) asked_is (fun hb => by cases hb) (fun _ L8 t8 => ?_)
        exact q _ _ (((((((g).trans i2).trans t4).trans t5).trans t6).trans t7).trans t8) rfl
      · have c_good := c_orbits
        refine ⟨_, (pss_cons (ps_if (pt_cmpR op_eq (pv 0) pe_int (nomark _))
        (pss_one (ps_never))
        pss_nil)
      (pss_cons (ps_if (pt_cmpR op_eq (pv 0) pe_int (nomark _))
        (pss_one (ps_never))
        pss_nil)
      (pss_cons (ps_if (pt_cmpR op_eq (pv 0) pe_int (nomark _))
        (pss_one (ps_never))
        pss_nil)
      (pss_cons (ps_if (pt_cmpR op_eq (pv 0) pe_int (nomark _))
        (pss_one (ps_never))
        pss_nil)
      (pss_cons (ps_if (pt_cmpR op_eq (pv 0) pe_int (nomark _))
        (pss_one (ps_expr (pe_cl c_good hr (by first | decide | omega) (by rfl) (pa_cons (pv 1) (pa_cons (pv 2) pa_nil)))))
        pss_nil)
      (pss_cons (ps_if (pt_cmpR op_eq (pv 0) pe_int (nomark _))
        (pss_one (ps_never))
        pss_nil)
      (pss_cons (ps_if (pt_cmpR op_eq (pv 0) pe_int (nomark _))
        (pss_one (ps_never))
        pss_nil)
      (pss_cons (ps_if (pt_cmpR op_eq (pv 0) pe_int (nomark _))
        (pss_one (ps_never))
        pss_nil)
      (pss_one (ps_if (pt_cmpR op_eq (pv 0) pe_int (nomark _))
        (pss_one (ps_never))
        pss_nil)))))))))), ?_⟩
        refine q_when (b := false) asked_is (fun hb => by cases hb) (fun _ H1 e1 => ?_)
        refine q_when (b := false) asked_is (fun hb => by cases hb) (fun _ H2 e2 => ?_)
        refine q_when (b := false) asked_is (fun hb => by cases hb) (fun _ H3 e3 => ?_)
        refine q_when (b := false) asked_is (fun hb => by cases hb) (fun _ H4 e4 => ?_)
        refine q_when (b := true) asked_is (fun _ H5 e5 => ?_) (fun hb => by cases hb)
        have g := ((((e1).trans e2).trans e3).trans e4).trans e5
        refine s_dropP (ep_callG (P := fun _ _ => True) p (ea_cons (ev_var rfl) (ea_cons (ev_var rfl) ea_nil)) (fun I1 f1 => ⟨⟨_, _, rfl, hm.1.ex (g.trans f1), hm.2.ex (g.trans f1)⟩, sok, mok⟩) (fun _ _ _ _ _ _ => trivial)) fun _ I2 i2 _ => ?_
        dsimp only
        refine q_when (b := false) asked_is (fun hb => by cases hb) (fun _ L5 t5 => ?_)
        refine q_when (b := false) asked_is (fun hb => by cases hb) (fun _ L6 t6 => ?_)
        refine q_when (b := false) asked_is (fun hb => by cases hb) (fun _ L7 t7 => ?_)
        refine s_when (b := false) asked_is (fun hb => by cases hb) (fun _ L8 t8 => ?_)
        exact q _ _ ((((((g).trans i2).trans t5).trans t6).trans t7).trans t8) rfl
      · have c_good := c_likeness
        refine ⟨_, (pss_cons (ps_if (pt_cmpR op_eq (pv 0) pe_int (nomark _))
        (pss_one (ps_never))
        pss_nil)
      (pss_cons (ps_if (pt_cmpR op_eq (pv 0) pe_int (nomark _))
        (pss_one (ps_never))
        pss_nil)
      (pss_cons (ps_if (pt_cmpR op_eq (pv 0) pe_int (nomark _))
        (pss_one (ps_never))
        pss_nil)
      (pss_cons (ps_if (pt_cmpR op_eq (pv 0) pe_int (nomark _))
        (pss_one (ps_never))
        pss_nil)
      (pss_cons (ps_if (pt_cmpR op_eq (pv 0) pe_int (nomark _))
        (pss_one (ps_never))
        pss_nil)
      (pss_cons (ps_if (pt_cmpR op_eq (pv 0) pe_int (nomark _))
        (pss_one (ps_expr (pe_cl c_good hr (by first | decide | omega) (by rfl) (pa_cons (pv 1) (pa_cons (pv 2) (pa_cons (pv 3) pa_nil))))))
        pss_nil)
      (pss_cons (ps_if (pt_cmpR op_eq (pv 0) pe_int (nomark _))
        (pss_one (ps_never))
        pss_nil)
      (pss_cons (ps_if (pt_cmpR op_eq (pv 0) pe_int (nomark _))
        (pss_one (ps_never))
        pss_nil)
      (pss_one (ps_if (pt_cmpR op_eq (pv 0) pe_int (nomark _))
        (pss_one (ps_never))
        pss_nil)))))))))), ?_⟩
        refine q_when (b := false) asked_is (fun hb => by cases hb) (fun _ H1 e1 => ?_)
        refine q_when (b := false) asked_is (fun hb => by cases hb) (fun _ H2 e2 => ?_)
        refine q_when (b := false) asked_is (fun hb => by cases hb) (fun _ H3 e3 => ?_)
        refine q_when (b := false) asked_is (fun hb => by cases hb) (fun _ H4 e4 => ?_)
        refine q_when (b := false) asked_is (fun hb => by cases hb) (fun _ H5 e5 => ?_)
        refine q_when (b := true) asked_is (fun _ H6 e6 => ?_) (fun hb => by cases hb)
        have g := (((((e1).trans e2).trans e3).trans e4).trans e5).trans e6
        refine s_dropP (ep_callG (P := fun _ _ => True) (p, p2) (ea_cons (ev_var rfl) (ea_cons (ev_var rfl) (ea_cons (ev_var rfl) ea_nil))) (fun I1 f1 => ⟨⟨_, _, _, rfl, hm.ex (g.trans f1), hb0.ex (g.trans f1)⟩, pr⟩) (fun _ _ _ _ _ _ => trivial)) fun _ I2 i2 _ => ?_
        dsimp only
        refine q_when (b := false) asked_is (fun hb => by cases hb) (fun _ L6 t6 => ?_)
        refine q_when (b := false) asked_is (fun hb => by cases hb) (fun _ L7 t7 => ?_)
        refine s_when (b := false) asked_is (fun hb => by cases hb) (fun _ L8 t8 => ?_)
        exact q _ _ (((((g).trans i2).trans t6).trans t7).trans t8) rfl
      · have c_good := c_judgedN
        refine ⟨_, (pss_cons (ps_if (pt_cmpR op_eq (pv 0) pe_int (nomark _))
        (pss_one (ps_never))
        pss_nil)
      (pss_cons (ps_if (pt_cmpR op_eq (pv 0) pe_int (nomark _))
        (pss_one (ps_never))
        pss_nil)
      (pss_cons (ps_if (pt_cmpR op_eq (pv 0) pe_int (nomark _))
        (pss_one (ps_never))
        pss_nil)
      (pss_cons (ps_if (pt_cmpR op_eq (pv 0) pe_int (nomark _))
        (pss_one (ps_never))
        pss_nil)
      (pss_cons (ps_if (pt_cmpR op_eq (pv 0) pe_int (nomark _))
        (pss_one (ps_never))
        pss_nil)
      (pss_cons (ps_if (pt_cmpR op_eq (pv 0) pe_int (nomark _))
        (pss_one (ps_never))
        pss_nil)
      (pss_cons (ps_if (pt_cmpR op_eq (pv 0) pe_int (nomark _))
        (pss_one (ps_expr (pe_cl c_good hr (by first | decide | omega) (by rfl) (pa_cons (pv 1) (pa_cons (pv 2) (pa_cons (pv 3) (pa_cons pe_non pa_nil)))))))
        pss_nil)
      (pss_cons (ps_if (pt_cmpR op_eq (pv 0) pe_int (nomark _))
        (pss_one (ps_never))
        pss_nil)
      (pss_one (ps_if (pt_cmpR op_eq (pv 0) pe_int (nomark _))
        (pss_one (ps_never))
        pss_nil)))))))))), ?_⟩
        refine q_when (b := false) asked_is (fun hb => by cases hb) (fun _ H1 e1 => ?_)
        refine q_when (b := false) asked_is (fun hb => by cases hb) (fun _ H2 e2 => ?_)
        refine q_when (b := false) asked_is (fun hb => by cases hb) (fun _ H3 e3 => ?_)
        refine q_when (b := false) asked_is (fun hb => by cases hb) (fun _ H4 e4 => ?_)
        refine q_when (b := false) asked_is (fun hb => by cases hb) (fun _ H5 e5 => ?_)
        refine q_when (b := false) asked_is (fun hb => by cases hb) (fun _ H6 e6 => ?_)
        refine q_when (b := true) asked_is (fun _ H7 e7 => ?_) (fun hb => by cases hb)
        have g := ((((((e1).trans e2).trans e3).trans e4).trans e5).trans e6).trans e7
        refine s_dropP (ep_call (p, p2) (ea_cons (ev_var rfl) (ea_cons (ev_var rfl) (ea_cons (ev_var rfl) (ea_cons ev_c ea_nil)))) fun I1 f1 => ⟨⟨_, _, _, rfl, hm.ex (g.trans f1), hb0.ex (g.trans f1)⟩, pr⟩) fun _ I2 i2 _ => ?_
        dsimp only
        refine q_when (b := false) asked_is (fun hb => by cases hb) (fun _ L7 t7 => ?_)
        refine s_when (b := false) asked_is (fun hb => by cases hb) (fun _ L8 t8 => ?_)
        exact q _ _ ((((g).trans i2).trans t7).trans t8) rfl
    · have c_good := c_renamed_by
      refine ⟨_, (pss_cons (ps_if (pt_cmpR op_eq (pv 0) pe_int (nomark _))
        (pss_one (ps_never))
        pss_nil)
      (pss_cons (ps_if (pt_cmpR op_eq (pv 0) pe_int (nomark _))
        (pss_one (ps_never))
        pss_nil)
      (pss_cons (ps_if (pt_cmpR op_eq (pv 0) pe_int (nomark _))
        (pss_one (ps_never))
        pss_nil)
      (pss_cons (ps_if (pt_cmpR op_eq (pv 0) pe_int (nomark _))
        (pss_one (ps_never))
        pss_nil)
      (pss_cons (ps_if (pt_cmpR op_eq (pv 0) pe_int (nomark _))
        (pss_one (ps_never))
        pss_nil)
      (pss_cons (ps_if (pt_cmpR op_eq (pv 0) pe_int (nomark _))
        (pss_one (ps_never))
        pss_nil)
      (pss_cons (ps_if (pt_cmpR op_eq (pv 0) pe_int (nomark _))
        (pss_one (ps_never))
        pss_nil)
      (pss_cons (ps_if (pt_cmpR op_eq (pv 0) pe_int (nomark _))
        (pss_one (ps_expr (pe_cl c_good hr (by first | decide | omega) (by rfl) (pa_cons (pv 4) (pa_cons (pv 4) pa_nil)))))
        pss_nil)
      (pss_one (ps_if (pt_cmpR op_eq (pv 0) pe_int (nomark _))
        (pss_one (ps_never))
        pss_nil)))))))))), ?_⟩
      refine q_when (b := false) asked_is (fun hb => by cases hb) (fun _ H1 e1 => ?_)
      refine q_when (b := false) asked_is (fun hb => by cases hb) (fun _ H2 e2 => ?_)
      refine q_when (b := false) asked_is (fun hb => by cases hb) (fun _ H3 e3 => ?_)
      refine q_when (b := false) asked_is (fun hb => by cases hb) (fun _ H4 e4 => ?_)
      refine q_when (b := false) asked_is (fun hb => by cases hb) (fun _ H5 e5 => ?_)
      refine q_when (b := false) asked_is (fun hb => by cases hb) (fun _ H6 e6 => ?_)
      refine q_when (b := false) asked_is (fun hb => by cases hb) (fun _ H7 e7 => ?_)
      refine q_when (b := true) asked_is (fun _ H8 e8 => ?_) (fun hb => by cases hb)
      have g := (((((((e1).trans e2).trans e3).trans e4).trans e5).trans e6).trans e7).trans e8
      refine s_dropP (ep_call (n, r, r) (ea_cons (ev_var rfl) (ea_cons (ev_var rfl) ea_nil)) fun I1 f1 => ⟨⟨_, _, rfl, ho.ex (g.trans f1), ho.ex (g.trans f1)⟩, od, od, n6⟩) fun _ I2 i2 _ => ?_
      dsimp only
      refine s_when (b := false) asked_is (fun hb => by cases hb) (fun _ L8 t8 => ?_)
      exact q _ _ (((g).trans i2).trans t8) rfl
end
end K24
end
section
namespace K24
open PySem PySem.Spec PyProof.Rows L2 Evl RZ Dw M20 M25
section
variable {P : Program} {w : World} {K : PySem.W.Frag} {mg : Str → Option Value} {base : Heap} {σ : L2.St} {H H' : Hp} {C : Nat → Addr} {G0 : Addr}
theorem pe_gv {X : Cx} {x : Str} {pos : Pos} {a : Addr} (hg : Gl X x) (h : X.mg x = some (.ref a)) (hn : x ≠ "__name__" := by decide) (hd : (x == ("__debug__" : Str)) = false := by decide) : PE X (.Name x pos) (tC (.ref a)) := pe_glob hg h rfl (hd := hd)
theorem kept_at (er : ErO K mg C G0) {i : Nat} (h : i < 3) {H4 H5 : Hp} {a : Addr} (na : H4 a = none) (e : Ex (upd H4 a (ExcAt a (.ref (C i)) none)) H5) : Ex H4 H5 ∧ TyC K H5 (.ref a) (.ref (C i)) := ⟨(Ex.new na).trans e, .inr ⟨a, C i, rfl, e _ _ upd_same, er.xc i h, rfl⟩⟩
theorem el_catLV {ta tb : TE} {b : Addr} {xs ys : List V} (ha : EvL ta σ H xs) (hb : Ev tb σ H (.ref b)) (hB : H b = some (.lst ys)) (n : xs.length + ys.length ≤ 100000) : EvL (tOp rCat ta tb) σ H (xs ++ ys) := fun H1 e1 Q q => ha H1 e1 _ fun a H2 na e2 hA => hb H2 (e1.trans e2) _ fun H3 e3 => ⟨a, b, xs, ys, rfl, rfl, e3 _ _ hA, ((e1.trans e2).trans e3) _ _ hB, sz_of n, fun r nr => q r _ (fresh_back (e2.trans e3) nr) ((e2.trans e3).trans (Ex.new nr)) upd_same⟩
/-- the truths that are told of an error -/
def tru (i : Nat) : List V := [.bl true, .bl (decide (i = 0)), .bl (decide (i = 1)), .bl (decide (i = 2))]
def RfV (H : Hp) (v : V) : Option Nat → Prop
  | none => v = .non
  | some i => ∃ a, v = .ref a ∧ H a = some (.lst (tru i))
def RPre (K : PySem.W.Frag) : Option Nat → List V → Hp → Prop
  | none => CallG K
  | some i => fun vs H => i < 3 ∧ CallE K i vs H
def sp_refused (K : PySem.W.Frag) : Sp := spF (RPre K) (fun r v H => RfV H v r)
theorem c_refused (T : Txt mg) (D : Df K mg "_law_refused" s__law_refused ["_law_way_here", "_law_signature_here", "_law_one", "_law_other", "_law_order_here"]) (er : ErO K mg C G0) (c_callX : ClX P w K mg base 10 "_law_call_of" (spEK C (CallE K))) (c_callG : Cl P w K mg base 13 "_law_call_of" (spX (fun (_ : Unit) => CallG K) (fun _ v _ => v = .non))) : Cl P w K mg base 14 "_law_refused" (sp_refused K) := by
  refine cl_of (k := 13) D sc__law_refused (fun vs H Q E h => ?_) (fun f cdv AA outer s H vs Q E hr h => ?_)
  · obtain ⟨r, h, _⟩ := h
    cases r with
    | none => obtain ⟨k, u, m, b, o, rfl, _⟩ := h; rfl
    | some i => obtain ⟨_, k, u, m, b, o, rfl, _⟩ := h; rfl
  · obtain ⟨r, h, q⟩ := h
    cases r with
    | none =>
      replace h : CallG K vs H := h
      obtain ⟨k, u, m, b, o, rfl, _⟩ := id h
      refine ⟨_, (pss_cons (ps_set (i := 5) sc__law_refused.nd rfl (.inl rfl) pe_non)
      (pss_cut (ps_try_trk (i := 6) rfl rfl rfl sc__law_refused.nd rfl rfl ⟨rfl, by decide, .inl er.g⟩ (fun W pn xe tk _ => (pss_one (ps_expr (pe_cl c_callG hr (by first | decide | omega) (by rfl) (pa_cons (pv 0) (pa_cons (pv 1) (pa_cons (pv 2) (pa_cons (pv 3) (pa_cons (pv 4) pa_nil))))))))) (fun a pn => pss_one (ps_set (i := 5) sc__law_refused.nd rfl (.inl rfl) (pv 6))))
      (pss_cons (ps_if (pt_cmpR op_isN (pv 5) pe_non (nomark _))
        (pss_one (ps_ret pe_non))
        pss_nil)
      (pss_cons (ps_never)
      (pss_one (ps_never)))))), ?_⟩
      refine q_asg ev_c fun H1 e1 => ?_
      refine q_cut (M := fun σ' H' => Ex H H' ∧ σ' = [some (vi k), some u, some m, some b, some o, some .non, none, none]) ?_ (fun σ' H' hM => ?_)
      · exact s_dropP (ep_call () (ea_cons (ev_var rfl) (ea_cons (ev_var rfl) (ea_cons (ev_var rfl) (ea_cons (ev_var rfl) (ea_cons (ev_var rfl) ea_nil))))) (fun H3 e3 => h.ex (e1.trans e3))) fun _ H3 e3 _ => ⟨e1.trans e3, rfl⟩
      · obtain ⟨hM, hσ⟩ := hM
        subst hσ
        refine q_when (b := true) (et_is (et_isNone (ev_var rfl)) rfl) (fun _ H4 e4 => ?_) (fun hb => by cases hb)
        exact s_ret ev_c fun H5 e5 => q _ H5 ((hM.trans e4).trans e5) rfl (fun d z => by cases z)
    | some i =>
      obtain ⟨i3, h⟩ : i < 3 ∧ CallE K i vs H := h
      obtain ⟨k, u, m, b, o, rfl, _⟩ := id h
      refine ⟨_, (pss_cons (ps_set (i := 5) sc__law_refused.nd rfl (.inl rfl) pe_non)
      (pss_cut (ps_try_trk (i := 6) rfl rfl rfl sc__law_refused.nd rfl rfl ⟨rfl, by decide, .inl er.g⟩ (fun W pn xe tk _ => (pss_one (ps_expr (pe_clX c_callX tk hr (by first | decide | omega) (by rfl) (pa_cons (pv 0) (pa_cons (pv 1) (pa_cons (pv 2) (pa_cons (pv 3) (pa_cons (pv 4) pa_nil))))))))) (fun a pn => pss_one (ps_set (i := 5) sc__law_refused.nd rfl (.inl rfl) (pv 6))))
      (pss_cons (ps_if (pt_cmpR op_isN (pv 5) pe_non (nomark _))
        (pss_one (ps_ret pe_non))
        pss_nil)
      (pss_cons (ps_set (i := 7) sc__law_refused.nd rfl (.inl rfl) (pe_lst (pa_cons (pe_callB call_isC (by rfl) T.z_isinstance (by decide +kernel) (pa_cons (pv 5) (pa_cons (pe_gv (by rfl) er.s0.g) pa_nil))) (pa_cons (pe_callB call_isC (by rfl) T.z_isinstance (by decide +kernel) (pa_cons (pv 5) (pa_cons (pe_gv (by rfl) er.s1.g) pa_nil))) (pa_cons (pe_callB call_isC (by rfl) T.z_isinstance (by decide +kernel) (pa_cons (pv 5) (pa_cons (pe_gv (by rfl) er.s2.g) pa_nil))) pa_nil)))))
      (pss_one (ps_ret (pe_op op_cat (pe_lst (pa_cons (pe_callB call_isC (by rfl) T.z_isinstance (by decide +kernel) (pa_cons (pv 5) (pa_cons (pe_ty "ValueError" (by rfl) T.z_ValueError (by decide +kernel)) pa_nil))) pa_nil)) (pv 7)))))))), ?_⟩
      refine q_asg ev_c fun H1 e1 => ?_
      refine q_cut (M := fun σ' H' => Ex H H' ∧ ∃ (x : Addr), TyC K H' (.ref x) (.ref (C i)) ∧ σ' = [some (vi k), some u, some m, some b, some o, some (.ref x), none, none]) ?_ (fun σ' H' hM => ?_)
      · exact do_callS ((ea_cons (ev_var rfl) (ea_cons (ev_var rfl) (ea_cons (ev_var rfl) (ea_cons (ev_var rfl) (ea_cons (ev_var rfl) ea_nil))))) H1 (Ex.refl _) _ fun I1 f1 => ⟨i, i3, h.ex (e1.trans f1), fun I2 f2 => ⟨er.xm i i3, fun a na => s_asg (ev_var rfl) fun I3 f3 => ⟨((e1.trans f1).trans f2).trans (kept_at er i3 na f3).1, a, (kept_at er i3 na f3).2, rfl⟩⟩⟩)
      · obtain ⟨e2, x, tc, hσ⟩ := hM
        subst hσ
        refine q_when (b := false) (et_is (et_isNone (ev_var rfl)) rfl) (fun hb => by cases hb) (fun _ H4 e4 => ?_)
        have isc : ∀ {j : Nat} {te : TE} {y0 y1 y2 y3 y4 y6 y7 : Option V} {H2 : Hp}, j < 3 → Ex H4 H2 → (∀ s, Ev te s H2 (.ref (C j))) → Ev (tCB (rIsC K) (tCons (tVar 5) (tCons te tNil))) [y0, y1, y2, y3, y4, some (.ref x), y6, y7] H2 (.bl (decide (i = j))) := fun {j te y0 y1 y2 y3 y4 y6 y7 H2} hj e h => ev_isC (ev_var rfl) (h _) (.own _) ((tc.ex e4).ex e) (er.kit i j i3 hj)
        refine q_asgL (el_lst (vs := [.bl (decide (i = 0)), .bl (decide (i = 1)), .bl (decide (i = 2))]) (ea_cons (isc (by decide) (Ex.refl _) fun _ => ev_c) (ea_cons (isc (by decide) (Ex.refl _) fun _ => ev_c) (ea_cons (isc (by decide) (Ex.refl _) fun _ => ev_c) ea_nil))) (by show 3 ≤ 100000; decide)) fun l1 H5 n5 e5 h5 => ?_
        refine s_retL (el_catLV (el_lst (vs := [.bl true]) (ea_cons (ev_isC (ev_var rfl) ev_c (.ty _) ((tc.ex e4).ex e5) (er.val i i3)) ea_nil) (by show 1 ≤ 100000; decide)) (ev_var rfl) h5 (by show 1 + 3 ≤ 100000; decide)) fun p H6 np e6 hp => q (.ref p) H6 (((e2.trans e4).trans e5).trans e6) ⟨p, rfl, hp⟩ (fun d z => by cases z; exact fresh_back ((e2.trans e4).trans e5) np)
end
end K24
end
section
namespace K24
open PySem PySem.Spec PyProof.Rows L2 Evl RZ Dw M20 M25
section
variable {P : Program} {w : World} {K : PySem.W.Frag} {mg : Str → Option Value} {base : Heap}
def sp_signature3 (K : PySem.W.Frag) : Sp := fun vs H Q _ => ∃ (p c : Addr) (t : Nat), vs = [.ref p, vi 3] ∧ Pur H p c t ∧ t ≤ 80000 ∧ ∀ v sg t' H', Off H H' p c → Pur H' p c t' → t' ≤ t + 20 → Sig K H' v sg → SigOk sg → Q v H'
theorem c_signature3 (T : Txt mg) (D : Df K mg "_law_signature" s_sgn ["_law_purse_here", "_law_most"]) (c_draw : Cl P w K mg base 1 "_law_draw" sp_draw) (c_mixed : Cl P w K mg base 2 "_law_mixed" (sp_mixed K)) : Cl P w K mg base 3 "_law_signature" (sp_signature3 K) := by
  refine cl_of (k := 2) D sc_sgn (fun vs H Q E h => ?_) (fun f cdv A outer s H vs Q E hr h => ?_)
  · obtain ⟨p, c, t, rfl, _⟩ := h
    rfl
  · obtain ⟨p, c, t, rfl, pu, t1, q⟩ := h
    refine ⟨_, (pss_cons (ps_set (i := 2) sc_sgn.nd rfl (.inl rfl) (pe_cl c_mixed hr (by first | decide | omega) (by rfl) (pa_cons (pv 0) (pa_cons (pe_lst (pa_cons pe_str (pa_cons pe_str (pa_cons pe_str (pa_cons pe_str (pa_cons pe_str (pa_cons pe_str pa_nil))))))) pa_nil))))
      (pss_cons (ps_set (i := 3) sc_sgn.nd rfl (.inl rfl) (pe_lst pa_nil))
      (pss_cons (ps_for PassesOwn.never (by rfl) (pi_range1 (by rfl) T.z_range (pa_cons (pe_op op_add pe_int (pe_cl c_draw hr (by first | decide | omega) (by rfl) (pa_cons (pv 0) (pa_cons (pv 1) pa_nil)))) pa_nil)) (pg_name (i := 4) sc_sgn.nd rfl (.inl rfl))
        (pss_one (ps_expr (pe_bm PySem.F.plainAttrs_list PySem.F.slot_list_append PySem.F.type_list_append mt_append (pv 3) (pa_cons (pe_tup (pa_cons (pe_ix ix_list (pv 2) (pv 4) (fun _ _ => rfl)) (pa_cons (pe_ix ix_list (pe_lst (pa_cons pe_int (pa_cons pe_int (pa_cons pe_int (pa_cons pe_int pa_nil))))) (pe_cl c_draw hr (by first | decide | omega) (by rfl) (pa_cons (pv 0) (pa_cons pe_int pa_nil))) (fun _ _ => rfl)) pa_nil))) pa_nil)))))
      (pss_one (ps_ret (pe_callTy call_tuple_of (by rfl) T.z_tuple (by decide +kernel) (pa_cons (pv 3) pa_nil))))))), ?_⟩
    -- the names
    refine do_mixed (l := p) (ev_var rfl) (el_lst (vs := okN.map V.str) (ea_cons ev_c (ea_cons ev_c (ea_cons ev_c (ea_cons ev_c (ea_cons ev_c (ea_cons ev_c ea_nil)))))) (by show 6 ≤ 100000; decide)) pu (by omega) (by show 6 ≤ 100; decide) fun m ys H1 perm nm o1 pu1 hm => ?_
    replace pu1 : Pur H1 p c (t + 6) := pu1
    obtain ⟨zs, rfl, pz⟩ := perm_strs perm
    have lz : zs.length = 6 := pz.length_eq
    have ndz : zs.Nodup := pz.nodup_iff.mpr okN_nd
    obtain ⟨mp, mc⟩ := pu.fresh nm
    show tSeq _ _ _ _ H1
    refine q_asgL (el_lst ea_nil (Nat.zero_le _)) fun l H2 nl e2 hl => ?_
    obtain ⟨lp, lc⟩ := pu1.fresh nl
    have lm : l ≠ m := fun e => by rw [e, hm] at nl; cases nl
    have hm2 := e2 _ _ hm
    have pu2 := pu1.ex e2
    have nlH : H l = none := o1.back lp lc nl
    have o2 : Off H H2 p c := o1.trans (.of_ex e2)
    refine q_forRX (fun n H3 => 1 ≤ n ∧ n ≤ 4 ∧ Off H2 H3 p c ∧ Pur H3 p c (t + 7)) (fun Q h => ?_) (fun n H3 h => by omega)
      (fun n i σ H' => (1 ≤ n ∧ n ≤ 4) ∧ Off H H' p c ∧ Pur H' p c (t + 7 + i) ∧ H' m = some (.lst (zs.map V.str)) ∧ (∃ ws sg, H' l = some (.lst ws) ∧ Paired (Deed K H') ws sg ∧ sg.map (·.1) = zs.take i ∧ ∀ q ∈ sg, q.2 ≤ 2) ∧ ∃ y, σ = [some (.ref p), some (vi 3), some (.ref m), some (.ref l), y])
      (fun n H3 ⟨a, b, o3, pu3⟩ => ⟨⟨a, b⟩, o2.trans o3, pu3, o3 _ _ mp mc hm2, ⟨[], [], o3 _ _ lp lc hl, .nil, rfl, fun _ z => nomatch z⟩, _, rfl⟩) (fun n i σ H3 hi ⟨⟨a, b⟩, o3, pu3, hm3, ⟨ws, sg, hws, pws, nms, pl2⟩, y, hσ⟩ => ?_) (fun n σ H3 ⟨⟨a, b⟩, o3, pu3, hm3, ⟨ws, sg, hws, pws, nms, pl2⟩, y, hσ⟩ => ?_)
    · refine do_draw (ev_var rfl) (ev_var rfl) pu2 (by omega) (by decide) (by decide) fun k H3 hk o3 pu3 => ⟨1, (k : Int), rfl, rfl, ?_⟩
      have e : V.int (1 + (k : Int)) = vi (k + 1) := by
        show V.int (1 + (k : Int)) = V.int ((k + 1 : Nat) : Int)
        rw [Int.natCast_add, Int.add_comm]
        rfl
      show Q [V.int (1 + (k : Int))] H3
      rw [e]
      exact h (k + 1) H3 ⟨by omega, by omega, o3, pu3⟩
    · subst hσ
      have hz : i < zs.length := by omega
      refine ⟨.ref l, rfl, .inl ⟨rfl, _, sq_of hws⟩, ?_⟩
      have nameE : Ev (tOp (rIxL K) (tVar 2) (tVar 4)) [some (.ref p), some (vi 3), some (.ref m), some (.ref l), some (vi i)] H3 (.str zs[i]) := ev_op (ev_var rfl) (ev_var rfl) (rv_ixL (sq_of hm3) (atI_vi (by rw [List.getElem?_map, List.getElem?_eq_getElem hz]; rfl)))
      refine nameE H3 (Ex.refl _) _ fun H4 e4 => ?_
      have plsE : EvL (tLst (tCons (tC (.int 0)) (tCons (tC (.int 1)) (tCons (tC (.int 2)) (tCons (tC (.int 2)) tNil))))) [some (.ref p), some (vi 3), some (.ref m), some (.ref l), some (vi i)] H4 (pls.map vi) := el_lst (ea_cons ev_c (ea_cons ev_c (ea_cons ev_c (ea_cons ev_c ea_nil)))) (by show 4 ≤ 100000; decide)
      refine do_cons (do_op (do_evL plsE fun d H5 nd e5 hd => ?_))
      have e35 := e4.trans e5
      refine do_draw (ev_var rfl) (ev_c (v := vi 4)) (pu3.ex e35) (by omega) (by decide) (by decide) fun k H6 hk o6 pu6 => ?_
      obtain ⟨dp, dc⟩ := (pu3.ex e4).fresh nd
      refine ⟨d, pls.map vi, (k : Int), vi (g pls k), rfl, rfl, sq_of (o6 _ _ dp dc hd), atI_vi (vi_get hk), ?_⟩
      refine ⟨by show 2 ≤ sizeLine; decide, fun r nr => ?_⟩
      have hl6 : H6 l = some (.lst ws) := o6 _ _ lp lc (e35 _ _ hws)
      have hl7 : (upd H6 r (.tup [.str zs[i], vi (g pls k)])) l = some (.lst ws) := by rw [upd_ne (ne_of_none hl6 nr)]; exact hl6
      have lw : ws.length ≤ 4 := by
        have h1 := paired_len pws
        have h2 := congrArg List.length nms
        rw [List.length_map, List.length_take] at h2
        omega
      refine ⟨l, ws, .ref r, rfl, rfl, hl7, sz_lt (by omega), ?_⟩
      have o36 : Off H3 H6 p c := (Off.of_ex e35).trans o6
      have o37 : Off H3 (upd H6 r (.tup [.str zs[i], vi (g pls k)])) p c := o36.trans (.of_ex (Ex.new nr))
      obtain ⟨rp, rc⟩ := pu6.fresh nr
      have et : ET K H3 (upd (upd H6 r (.tup [.str zs[i], vi (g pls k)])) l (.lst (ws ++ [.ref r]))) := ET.upd (o37.et pu3) hl7
      have hm6 : H6 m = some (.lst (zs.map V.str)) := o6 _ _ mp mc (e35 _ _ hm3)
      refine ⟨⟨a, b⟩, (o3.trans o37).upd nlH, (pu6.upd rp rc).upd lp lc, ?_, ⟨ws ++ [.ref r], sg ++ [(zs[i], g pls k)], upd_same, paired_snoc ?_ (paired_imp (fun _ _ z => z.et et) pws), ?_, fun x hx => ?_⟩, _, rfl⟩
      · rw [upd_ne (Ne.symm lm), upd_ne (ne_of_none hm6 nr)]
        exact hm6
      · refine ⟨r, rfl, st_of ?_⟩
        rw [upd_ne (fun e => by rw [e] at nr; rw [nr] at hl6; cases hl6), upd_same]
      · rw [List.map_append, nms, List.take_add_one, List.getElem?_eq_getElem hz]
        rfl
      · rcases List.mem_append.mp hx with z | z
        · exact pl2 x z
        · rw [List.mem_singleton.mp z]
          have : ∀ k, k < 4 → g pls k ≤ 2 := by decide
          exact this k hk
    · subst hσ
      have ls : sg.length = n := by
        have h2 := congrArg List.length nms
        rw [List.length_map, List.length_take] at h2
        omega
      have ok : SigOk sg := ⟨by omega, by omega, fun x hx => okN_name _ (pz.mem_iff.mp (List.mem_of_mem_take (by rw [← nms]; exact List.mem_map.mpr ⟨x, hx, rfl⟩))), pl2, by rw [nms]; exact (List.take_sublist _ _).nodup ndz⟩
      refine eu_tupL (K := K) (ev_var rfl) (sq_of hws) H3 (Ex.refl _) _ fun r H4 nr e4 hr4 => q _ sg (t + 7 + n) H4 (o3.trans (.of_ex e4)) (pu3.ex e4) (by omega) ⟨r, ws, rfl, st_of hr4, paired_imp (fun _ _ z => z.et (Dw.Ex.et e4)) pws⟩ ok
/-! ### pick -/
def sp_pick (K : PySem.W.Frag) : Sp := fun vs H Q _ => ∃ (p c l : Addr) (t : Nat) (xs : List V), vs = [.ref p, .ref l] ∧ Pur H p c t ∧ t ≤ 90000 ∧ H l = some (.lst xs) ∧ l ≠ p ∧ l ≠ c ∧ 1 ≤ xs.length ∧ xs.length ≤ 1000 ∧ ∀ (k : Nat) x H', xs[k]? = some x → Off H H' p c → Pur H' p c (t + 1) → Q x H'
theorem c_pick (T : Txt mg) (D : Df K mg "_law_pick" s__law_pick ["_law_purse_here", "_law_things"]) (c_draw : Cl P w K mg base 1 "_law_draw" sp_draw) : Cl P w K mg base 2 "_law_pick" (sp_pick K) := by
  refine cl_of (k := 1) D sc__law_pick (fun vs H Q E h => ?_) (fun f cdv A outer s H vs Q E hr h => ?_)
  · obtain ⟨p, c, l, t, xs, rfl, _⟩ := h
    rfl
  · obtain ⟨p, c, l, t, xs, rfl, pu, t1, hx, lp, lc, x1, x2, q⟩ := h
    refine ⟨_, (pss_one (ps_ret (pe_ix ix_list (pv 1) (pe_cl c_draw hr (by first | decide | omega) (by rfl) (pa_cons (pv 0) (pa_cons (pe_callB call_len_seq (by rfl) T.z_len PySem.boot_len (pa_cons (pv 1) pa_nil)) pa_nil))) (fun _ _ => rfl)))), ?_⟩
    refine do_ret (do_op (do_ev (ev_var rfl) fun H1 e1 => do_draw (n := xs.length) (ev_var rfl) (fun H2 e2 Q2 q2 => ev_var rfl H2 (Ex.refl _) _ fun H3 e3 => ⟨l, xs, rfl, .inl (sq_of (((e1.trans e2).trans e3) _ _ hx)), q2 H3 e3⟩) (pu.ex e1) (by omega) x1 x2 fun k H2 hk o2 pu2 => ?_))
    have hk' : xs[k]? = some xs[k] := List.getElem?_eq_getElem hk
    have o02 := (Off.of_ex e1).trans o2
    exact ⟨l, xs, (k : Int), xs[k], rfl, rfl, sq_of (o02 _ _ lp lc hx), atI_nat hk', q k _ H2 hk' o02 pu2⟩
end
section
variable {K : PySem.W.Frag} {σ : L2.St} {H H' : Hp} {R : V → Hp → Prop} {n m t : Nat} {p c : Addr} {ta : TA} {te : TE}
def EvAs (R : V → Hp → Prop) (n : Nat) (ta : TA) (σ : L2.St) (H : Hp) : Prop := ∀ H1, Ex H H1 → ∀ Q : List V → Hp → Prop, (∀ vs H2, Ex H1 H2 → vs.length = n → (∀ x ∈ vs, R x H2) → Q vs H2) → ta σ H1 Q
theorem eas_nil : EvAs R 0 tNil σ H := fun H1 _ Q q => q [] H1 (Ex.refl _) rfl (fun x hx => by cases hx)
theorem eas_cons (st : ∀ v H H', Ex H H' → R v H → R v H') (h : EvP te σ H R) (hr : EvAs R n ta σ H) : EvAs R (n + 1) (tCons te ta) σ H := fun H1 e Q q => do_cons (h H1 e _ fun v H2 e2 hv => hr H2 (e.trans e2) _ fun vs H3 e3 ln hvs => q _ H3 (e2.trans e3) (by rw [List.length_cons, ln]) (fun x hx => by
  rcases List.mem_cons.mp hx with z | z
  · rw [z]
    exact st _ _ _ e3 hv
  · exact hvs x z))
def LsR (R : V → Hp → Prop) (p c : Addr) (n : Nat) (v : V) (H : Hp) : Prop := ∃ (l : Addr) (xs : List V), v = .ref l ∧ H l = some (.lst xs) ∧ l ≠ p ∧ l ≠ c ∧ xs.length = n ∧ ∀ x ∈ xs, R x H
theorem LsR.ex (st : ∀ v H H', Ex H H' → R v H → R v H') (e : Ex H H') (h : LsR R p c n v H) : LsR R p c n v H' := let ⟨l, xs, q, hx, a, b, ln, all⟩ := h; ⟨l, xs, q, e _ _ hx, a, b, ln, fun x hx => st _ _ _ e (all x hx)⟩
theorem ep_lstR (st : ∀ v H H', Ex H H' → R v H → R v H') (h : EvAs R n ta σ H) (l : n ≤ 1000) (pu : Pur H p c m) : EvP (tLst ta) σ H (LsR R p c n) := fun H1 e Q q => do_lst (h H1 e _ fun vs H2 e2 ln hv => ⟨sz_of (by omega), fun a na => by
  obtain ⟨ap, ac⟩ := (pu.ex (e.trans e2)).fresh na
  exact q _ _ (e2.trans (Ex.new na)) ⟨a, vs, rfl, upd_same, ap, ac, ln, fun x hx => st _ _ _ (Ex.new na) (hv x hx)⟩⟩)
theorem ep_catR {t1 t2 : TE} {n1 n2 : Nat} (st : ∀ v H H', Ex H H' → R v H → R v H') (h1 : EvP t1 σ H (LsR R p c n1)) (h2 : EvP t2 σ H (LsR R p c n2)) (l : n1 + n2 ≤ 1000) (pu : Pur H p c m) : EvP (tOp rCat t1 t2) σ H (LsR R p c (n1 + n2)) := fun H1 e Q q => do_op (h1 H1 e _ fun v H2 e2 hv => h2 H2 (e.trans e2) _ fun u H3 e3 hu => by
  obtain ⟨l1, xs, rfl, hx, _, _, ln, all⟩ := LsR.ex st e3 hv
  obtain ⟨l2, ys, rfl, hy, _, _, ln2, all2⟩ := hu
  refine ⟨l1, l2, xs, ys, rfl, rfl, hx, hy, sz_of (by omega), fun r nr => ?_⟩
  obtain ⟨ap, ac⟩ := (pu.ex ((e.trans e2).trans e3)).fresh nr
  refine q _ _ ((e2.trans e3).trans (Ex.new nr)) ⟨r, xs ++ ys, rfl, upd_same, ap, ac, by rw [List.length_append, ln, ln2], fun x hx => ?_⟩
  rcases List.mem_append.mp hx with z | z
  · exact st _ _ _ (Ex.new nr) (all x z)
  · exact st _ _ _ (Ex.new nr) (all2 x z))
theorem do_pickR {tp tl : TE} {Q : VK} (hp : Ev tp σ H (.ref p)) (pu : Pur H p c t) (l9 : t ≤ 90000) (hl : EvP tl σ H (LsR R p c n)) (n1 : 1 ≤ n) (n2 : n ≤ 1000) (so : ∀ v H2 H', Pur H2 p c t → Off H2 H' p c → R v H2 → R v H')
    (q : ∀ v H', Off H H' p c → Pur H' p c (t + 1) → R v H' → Q v H') : tCall (sp_pick K) [] E0 (tCons tp (tCons tl tNil)) σ H Q :=
  do_cons (hp H (Ex.refl _) _ fun H1 e1 => do_cons (hl H1 e1 _ fun v H2 e2 hv => do_nil (by
    obtain ⟨l, xs, rfl, hx, lp, lc, ln, all⟩ := hv
    have pu2 := pu.ex (e1.trans e2)
    exact ⟨p, c, l, t, xs, rfl, pu2, l9, hx, lp, lc, by omega, by omega, fun k x H3 hk o3 pu3 => q x H3 ((Off.of_ex (e1.trans e2)).trans o3) pu3 (so _ _ _ pu2 o3 (all x (List.mem_of_getElem? hk)))⟩)))
end
/-! ### data by what it is -/
section
variable {K : PySem.W.Frag} {σ : L2.St} {H H' : Hp} {n m t : Nat} {p c : Addr} {ta : TA} {te tb : TE} {φ ψ : PyData → Prop} {v : V} {d : PyData} {ds es : List PyData}
theorem el_listT {xs : List V} {p : Addr} (h : Ev te σ H (.ref p)) (hp : SqT K H p xs) : EvL (tCB (rListS K) (tCons te tNil)) σ H xs := fun H1 e Q q =>
  h H1 e _ fun H2 e2 => ⟨p, xs, rfl, .inr (ex_t (e.trans e2) hp), fun l nl => q l _ (fresh_back e2 nl) (e2.trans (Ex.new nl)) upd_same⟩
/-- data of a kind -/
def DzP (K : PySem.W.Frag) (p c : Addr) (φ : PyData → Prop) (v : V) (H : Hp) : Prop := ∃ d, Dz K p c H v d ∧ φ d
theorem DzP.ex (e : Ex H H') (h : DzP K p c φ v H) : DzP K p c φ v H' := let ⟨d, z, f⟩ := h; ⟨d, z.ex e, f⟩
theorem DzP.st : ∀ v H H', Ex H H' → DzP K p c φ v H → DzP K p c φ v H' := fun _ _ _ e h => h.ex e
theorem DzP.off (pu : Pur H p c t) (o : Off H H' p c) (h : DzP K p c φ v H) : DzP K p c φ v H' := let ⟨d, z, f⟩ := h; ⟨d, z.off pu o, f⟩
theorem DzP.imp (h : DzP K p c φ v H) (i : ∀ d, φ d → ψ d) : DzP K p c ψ v H := let ⟨d, z, f⟩ := h; ⟨d, z, i d f⟩
def TD (K : PySem.W.Frag) (p c : Addr) (ds : List PyData) (v : V) (H : Hp) : Prop := ∃ xs, TV K H v xs ∧ DzAll K p c H xs ds
theorem TD.ex (e : Ex H H') (h : TD K p c ds v H) : TD K p c ds v H' := let ⟨xs, a, b⟩ := h; ⟨xs, a.ex e, b.ex e⟩
theorem TD.off (pu : Pur H p c t) (o : Off H H' p c) (h : TD K p c ds v H) : TD K p c ds v H' := let ⟨xs, ⟨a, ev, s⟩, b⟩ := h; ⟨xs, ⟨a, ev, o.et pu _ _ s⟩, b.off pu o⟩
theorem TD.dz (h : TD K p c ds v H) : Dz K p c H v (.tuple ds) := by
  obtain ⟨xs, ⟨a, rfl, s⟩, b⟩ := h
  exact .tup s b
theorem td_ev (h : Ev te σ H v) (t : TD K p c ds v H) : EvP te σ H (TD K p c ds) := ep_ev h fun _ e => t.ex e
theorem td_dz (h : EvP te σ H (TD K p c ds)) : EvP te σ H (fun v H' => Dz K p c H' v (.tuple ds)) := h.imp fun _ _ _ z => z.dz
theorem cat_at {Q : VK} {x y : V} (ha : TD K p c ds x H) (hb : TD K p c es y H) (hl : ds.length + es.length ≤ 100000) (q : ∀ v H', Ex H H' → TD K p c (ds ++ es) v H' → Q v H') : rCatA K x y H Q := by
  obtain ⟨xs, ⟨a, rfl, sa⟩, za⟩ := ha
  obtain ⟨ys, ⟨b, rfl, sb⟩, zb⟩ := hb
  have la := za.len
  have lb := zb.len
  refine ⟨a, b, xs, ys, rfl, rfl, sa, sb, sz_of (by omega), fun z => ?_, fun _ z => ?_, fun _ _ p np => ?_⟩
  · subst z
    exact q _ H (Ex.refl _) ⟨ys, ⟨b, rfl, sb⟩, DzAll.app za zb⟩
  · subst z
    exact q _ H (Ex.refl _) ⟨xs, ⟨a, rfl, sa⟩, by have := DzAll.app za zb; rw [List.append_nil] at this; exact this⟩
  · exact q _ _ (Ex.new np) ⟨_, ⟨p, rfl, st_of upd_same⟩, (DzAll.app za zb).ex (Ex.new np)⟩
theorem td_cat (ha : EvP te σ H (TD K p c ds)) (hb : EvP tb σ H (TD K p c es)) (hl : ds.length + es.length ≤ 100000) : EvP (tOp (rCatA K) te tb) σ H (TD K p c (ds ++ es)) := fun H1 e1 Q q =>
  do_op (ha H1 e1 _ fun v H2 e2 hv => hb H2 (e1.trans e2) _ fun u H3 e3 hu => cat_at (hv.ex e3) hu hl fun x H4 e4 hx => q x H4 ((e2.trans e3).trans e4) hx)
/-- what is written one behind the other -/
def EvDs (K : PySem.W.Frag) (p c : Addr) (ds : List PyData) (ta : TA) (σ : L2.St) (H : Hp) : Prop := Dw.EvAP ta σ H (fun vs H' => DzAll K p c H' vs ds)
theorem eds_nil : EvDs K p c [] tNil σ H := fun H1 _ Q q => q [] H1 (Ex.refl _) .nil
theorem eds_cons (h : EvP te σ H (fun v H' => Dz K p c H' v d)) (hr : EvDs K p c ds ta σ H) : EvDs K p c (d :: ds) (tCons te ta) σ H := fun H1 e Q q => do_cons (h H1 e _ fun v H2 e2 hv => hr H2 (e.trans e2) _ fun vs H3 e3 hvs => q _ H3 (e2.trans e3) (.cons (hv.ex e3) hvs))
theorem td_tup (h : EvDs K p c ds ta σ H) (l : ds.length ≤ 100000) : EvP (tTup ta) σ H (TD K p c ds) := fun H1 e Q q => do_tup (h H1 e _ fun vs H2 e2 hvs => ⟨sz_of (by rw [hvs.len]; exact l), fun a na => q _ _ (e2.trans (Ex.new na)) ⟨vs, ⟨a, rfl, st_of upd_same⟩, hvs.ex (Ex.new na)⟩⟩)
theorem dz_tup (h : EvDs K p c ds ta σ H) (l : ds.length ≤ 100000) : EvP (tTup ta) σ H (fun v H' => Dz K p c H' v (.tuple ds)) := td_dz (td_tup h l)
theorem dz_lst (h : EvDs K p c ds ta σ H) (l : ds.length ≤ 100000) (pu : Pur H p c t) : EvP (tLst ta) σ H (fun v H' => Dz K p c H' v (.list ds)) := fun H1 e Q q => do_lst (h H1 e _ fun vs H2 e2 hvs => ⟨sz_of (by rw [hvs.len]; exact l), fun a na => by
  obtain ⟨ap, ac⟩ := (pu.ex (e.trans e2)).fresh na
  exact q _ _ (e2.trans (Ex.new na)) (.lst upd_same ap ac (hvs.ex (Ex.new na)))⟩)
theorem dz_ev (h : Ev te σ H v) (z : Dz K p c H v d) : EvP te σ H (fun v H' => Dz K p c H' v d) := ep_ev h fun _ e => z.ex e
theorem dz_int {i : Int} (h : Ev te σ H (.int i)) : EvP te σ H (fun v H' => Dz K p c H' v (.int i)) := ep_ev h fun _ _ => .int i
theorem dz_nat {i : Nat} (h : Ev te σ H (vi i)) : EvP te σ H (fun v H' => Dz K p c H' v (intD i)) := ep_ev h fun _ _ => .int _
theorem dz_bl {b : Bool} (h : Ev te σ H (.bl b)) : EvP te σ H (fun v H' => Dz K p c H' v (.bool b)) := ep_ev h fun _ _ => .bl b
theorem dz_str {x : Str} (h : Ev te σ H (.str x)) : EvP te σ H (fun v H' => Dz K p c H' v (.str x)) := ep_ev h fun _ _ => .str x
theorem dz_non (h : Ev te σ H .non) : EvP te σ H (fun v H' => Dz K p c H' v .none) := ep_ev h fun _ _ => .non
theorem dz_list (h : Ev te σ H v) (z : TD K p c ds v H) (pu : Pur H p c t) : EvP (tCB (rListS K) (tCons te tNil)) σ H (fun v H' => Dz K p c H' v (.list ds)) := fun H1 e Q q => by
  obtain ⟨xs, ⟨a, rfl, s⟩, b⟩ := z
  refine el_listT (K := K) h s H1 e _ fun l H2 nl e2 hl => q _ H2 e2 ?_
  obtain ⟨lp, lc⟩ := (pu.ex e).fresh nl
  exact .lst hl lp lc (b.ex (e.trans e2))
theorem cut_last {xs : List V} (h : 1 ≤ xs.length) : cutV xs none (some (-1)) = xs.take (xs.length - 1) := by
  have e : HT.sIx xs.length xs.length (some (-1)) = xs.length - 1 := by
    have e1 : HT.sIx xs.length xs.length (some (-1)) = ((-1 : Int) + (xs.length : Int)).toNat := by
      unfold HT.sIx
      exact if_pos (by decide)
    rw [e1]
    omega
  unfold cutV
  rw [e, HT.sIx_none, Nat.sub_zero, List.drop_zero]
theorem td_from {k : Nat} (h : EvP te σ H (TD K p c ds)) {tk : TE} (hk : Ev tk σ H (vi k)) : EvP (tSl (rSlA K) te (tPart tk) tNoPart) σ H (TD K p c (ds.drop k)) := fun H1 e Q q =>
  h H1 e _ fun v H2 e2 hv => by
    obtain ⟨xs, hT, z⟩ := hv
    refine tv_sl (K := K) (te := fun _ H Q => Q v H) (σ := σ) (H := H2) (fun H3 e3 Q3 q3 => q3 v H3 (Ex.refl _) (hT.ex e3)) (eo_some fun H3 e3 => hk H3 ((e.trans e2).trans e3)) eo_none H2 (Ex.refl _) _ fun x H3 e3 hx => q x H3 (e2.trans e3) ⟨_, hx, ?_⟩
    rw [cut_from']
    exact (z.drop k).ex e3
theorem td_to {k : Nat} (h : EvP te σ H (TD K p c ds)) {tk : TE} (hk : Ev tk σ H (vi k)) : EvP (tSl (rSlA K) te tNoPart (tPart tk)) σ H (TD K p c (ds.take k)) := fun H1 e Q q =>
  h H1 e _ fun v H2 e2 hv => by
    obtain ⟨xs, hT, z⟩ := hv
    refine tv_sl (K := K) (te := fun _ H Q => Q v H) (σ := σ) (H := H2) (fun H3 e3 Q3 q3 => q3 v H3 (Ex.refl _) (hT.ex e3)) eo_none (eo_some fun H3 e3 => hk H3 ((e.trans e2).trans e3)) H2 (Ex.refl _) _ fun x H3 e3 hx => q x H3 (e2.trans e3) ⟨_, hx, ?_⟩
    rw [cut_to']
    exact (z.take k).ex e3
theorem td_last (h : EvP te σ H (TD K p c ds)) (l : 1 ≤ ds.length) {tk : TE} (hk : Ev tk σ H (.int (-1))) : EvP (tSl (rSlA K) te tNoPart (tPart tk)) σ H (TD K p c (ds.take (ds.length - 1))) := fun H1 e Q q =>
  h H1 e _ fun v H2 e2 hv => by
    obtain ⟨xs, hT, z⟩ := hv
    refine tv_sl (K := K) (te := fun _ H Q => Q v H) (σ := σ) (H := H2) (fun H3 e3 Q3 q3 => q3 v H3 (Ex.refl _) (hT.ex e3)) eo_none (eo_some fun H3 e3 => hk H3 ((e.trans e2).trans e3)) H2 (Ex.refl _) _ fun x H3 e3 hx => q x H3 (e2.trans e3) ⟨_, hx, ?_⟩
    rw [cut_last (by rw [z.len]; exact l), z.len]
    exact (z.take _).ex e3
theorem ev_neg1 : Ev (tUn (fun x H Q => ∃ i, x = .int i ∧ Q (.int (-i)) H) (tC (.int 1))) σ H (.int (-1)) := ev_un (z := .int (-1)) ev_c (fun H1 _ Q q => ⟨1, rfl, q H1 (Ex.refl _)⟩)
theorem nats_td {ns : List Nat} (h : Nats K H v ns) : TD K p c (ns.map intD) v H := by
  obtain ⟨a, rfl, s⟩ := h
  refine ⟨_, ⟨a, rfl, s⟩, ?_⟩
  clear s
  induction ns with
  | nil => exact .nil
  | cons x t ih => exact .cons (.int _) ih
theorem tabs_td {ts : List (List Nat)} (h : Tabs K H v ts) : TD K p c (ts.map dN) v H := by
  obtain ⟨a, vs, rfl, s, pr⟩ := h
  refine ⟨_, ⟨a, rfl, s⟩, ?_⟩
  clear s
  induction pr with
  | nil => exact .nil
  | cons a b ih => exact .cons (nats_td a).dz ih
/-- a tuple with one of its parts put anew, out of the purse -/
theorem do_bent {tc : TE} {t2 : Nat} {Q : VK} (pu : Pur H p c t) (hA : EvP te σ H (TD K p c ds)) (mid : ∀ H1, Ex H H1 → ∀ Q : VK, (∀ v H2, Off H1 H2 p c → Pur H2 p c t2 → DzP K p c φ v H2 → Q v H2) → tb σ H1 Q) (hC : ∀ H2, Off H H2 p c → EvP tc σ H2 (TD K p c es)) (l : ds.length + 1 + es.length ≤ 1000) (q : ∀ v d H', Off H H' p c → Pur H' p c t2 → φ d → TD K p c (ds ++ [d] ++ es) v H' → Q v H') : tOp (rCatA K) (tOp (rCatA K) te (tTup (tCons tb tNil))) tc σ H Q :=
  do_op (do_op (hA H (Ex.refl H) _ fun v1 H1 e1 h1 => do_tup (do_cons (mid H1 e1 _ fun v2 H2 o2 pu2 h2 => do_nil ⟨by show 1 ≤ sizeLine; decide, fun r nr => by
    have e3 : Ex H2 (upd H2 r (.tup [v2])) := Ex.new nr
    have o03 : Off H (upd H2 r (.tup [v2])) p c := ((Off.of_ex e1).trans o2).trans (.of_ex e3)
    obtain ⟨d, zd, fd⟩ := h2
    have h1b : TD K p c ds v1 (upd H2 r (.tup [v2])) := (h1.off (pu.ex e1) o2).ex e3
    have h2b : TD K p c [d] (.ref r) (upd H2 r (.tup [v2])) := ⟨[v2], ⟨r, rfl, st_of upd_same⟩, .cons (zd.ex e3) .nil⟩
    have pu3 := pu2.ex e3
    generalize upd H2 r (.tup [v2]) = H3 at *
    exact cat_at h1b h2b (by show ds.length + 1 ≤ 100000; omega) fun v4 H4 e4 h4 => hC H4 (o03.trans (.of_ex e4)) H4 (Ex.refl _) _ fun v5 H5 e5 h5 => cat_at (h4.ex e5) h5 (by rw [List.length_append]; show ds.length + 1 + es.length ≤ 100000; omega) fun v6 H6 e6 h6 => q v6 d H6 (o03.trans (.of_ex ((e4.trans e5).trans e6))) (pu3.ex ((e4.trans e5).trans e6)) fd h6⟩))))
end
end K24
end
section
namespace K24
open PySem PySem.Spec PyProof.Rows L2 Evl RZ Dw M20 M25
/-! the models that are none, as data -/
theorem mod_size {sg : List (Str × Nat)} {k x : PyData} (h : sizeB k = false) : modW sg (.tuple [k, x]) ≠ .none := by
  rw [modW, modW2, if_neg (by rw [h]; decide)]
  exact fun z => by cases z
theorem mod_short {sg : List (Str × Nat)} {n : Int} {ds : List PyData} (h : ds.length ≠ sg.length) : modW sg (.tuple [.int n, .tuple ds]) ≠ .none := by
  rw [modW, modW2]
  split
  · rw [modW3, if_neg h]
    exact fun z => by cases z
  · exact fun z => by cases z
theorem mod_list {sg : List (Str × Nat)} {n : Int} {ds : List PyData} : modW sg (.tuple [.int n, .list ds]) ≠ .none := by
  rw [modW, modW2]
  split
  · exact fun z => by cases z
  · exact fun z => by cases z
/-- a table that is none -/
def BadT (n pl : Nat) (d : PyData) : Prop := tableB n pl d = false ∨ oddRow n (cellsOf d) ≠ []
theorem mod_bent {sg : List (Str × Nat)} {n k : Nat} {ds : List PyData} (hk : k < sg.length) (l : ds.length = sg.length) (bad : BadT n (plOf sg k) (ds.getD k .none)) : modW sg (.tuple [.int ((n : Nat) : Int), .tuple ds]) ≠ .none := by
  rw [modW, modW2]
  split
  · rw [modW3, if_pos l, modW4, Int.toNat_natCast]
    cases hb : badK sg n ds with
    | cons j r => exact fun z => by cases z
    | nil =>
      have tb : tableB n (plOf sg k) (ds.getD k .none) = true := by
        have := List.filter_eq_nil_iff.mp hb k (List.mem_range.mpr hk)
        cases h : tableB n (plOf sg k) (ds.getD k .none) with
        | true => rfl
        | false => rw [h] at this; exact absurd rfl this
      have odd : oddRow n (cellsOf (ds.getD k .none)) ≠ [] := by
        rcases bad with b | b
        · rw [b] at tb; cases tb
        · exact b
      have mem : k ∈ oddT n ds := by
        rw [oddT, List.mem_filter, List.mem_range]
        refine ⟨by omega, ?_⟩
        cases h : oddRow n (cellsOf (ds.getD k .none)) with
        | nil => exact absurd h odd
        | cons a b => rfl
      have some_ : oddW n ds ≠ none := by
        rw [oddW]
        cases h : oddT n ds with
        | nil => rw [h] at mem; cases mem
        | cons j r =>
          have km : j ∈ oddT n ds := by rw [h]; exact List.mem_cons_self ..
          rw [oddT, List.mem_filter] at km
          show (match oddRow n (cellsOf (ds.getD j .none)) with
            | i :: _ => some (j, i)
            | [] => none) ≠ none
          cases h2 : oddRow n (cellsOf (ds.getD j .none)) with
          | nil => rw [h2] at km; exact absurd km.2 (by decide)
          | cons a b => exact fun z => by cases z
      cases h : oddW n ds with
      | none => exact absurd h some_
      | some e => exact fun z => by cases z
  · exact fun z => by cases z
theorem bad_first {n pl : Nat} {d : PyData} {ds : List PyData} (h : belowB (n : Int) d = false) : BadT n pl (.tuple ([d] ++ ds)) := by
  refine .inr ?_
  obtain ⟨r, e⟩ := oddRow_first (n := n) (i := 0) (cs := [d] ++ ds) (by rw [List.length_append]; show 0 < 1 + _; omega) (fun j h => absurd h (Nat.not_lt_zero _)) h
  show oddRow n ([d] ++ ds) ≠ []
  rw [e]
  exact fun z => by cases z
theorem bad_len {n pl : Nat} {ds : List PyData} (h : ds.length ≠ n ^ pl) : BadT n pl (.tuple ds) := .inl (decide_eq_false h)
theorem below_self (n : Nat) : belowB (n : Int) (intD n) = false := by
  show belowB (n : Int) (.int ((n : Nat) : Int)) = false
  rw [belowB]
  simp
theorem below_neg (n : Nat) : belowB (n : Int) (.int (-1)) = false := by
  rw [belowB]
  rfl
section
variable {P : Program} {w : World} {K : PySem.W.Frag} {mg : Str → Option Value} {base : Heap}
def NoMd (sg : List (Str × Nat)) (d : PyData) : Prop := modW sg d ≠ .none
def sp_no_model (K : PySem.W.Frag) : Sp := fun vs H Q _ => ∃ (p c : Addr) (t : Nat) (v : V) (sg : List (Str × Nat)) (n : Nat) (ts : List (List Nat)), vs = [.ref p, v] ∧ Pur H p c t ∧ t ≤ 80000 ∧ Mdl K H v n ts ∧ SigOk sg ∧ MdlOk sg n ts ∧ ∀ r H', Off H H' p c → Pur H' p c (t + 3) → DzP K p c (NoMd sg) r H' → Q r H'
theorem c_no_model (T : Txt mg) (D : Df K mg "_law_no_model" s__law_no_model ["_law_purse_here", "_law_model_here"]) (c_draw : Cl P w K mg base 1 "_law_draw" sp_draw) (c_pick : Cl P w K mg base 2 "_law_pick" (sp_pick K)) : Cl P w K mg base 3 "_law_no_model" (sp_no_model K) := by
  refine cl_of (k := 2) D sc__law_no_model (fun vs H Q E h => ?_) (fun f cdv A outer s H vs Q E hr h => ?_)
  · obtain ⟨p, c, t, v, sg, n, ts, rfl, _⟩ := h
    rfl
  · obtain ⟨p, c, t, v, sg, n, ts, rfl, pu, t1, hM, so, mo, q⟩ := h
    refine ⟨_, (pss_cons (ps_asg (pv 1) (pg_tup (by rfl) (pgs_cons (pg_name (i := 2) sc__law_no_model.nd rfl (.inl rfl)) (pgs_cons (pg_name (i := 3) sc__law_no_model.nd rfl (.inl rfl)) pgs_nil))))
      (pss_cons (ps_set (i := 4) sc__law_no_model.nd rfl (.inl rfl) (pe_cl c_draw hr (by first | decide | omega) (by rfl) (pa_cons (pv 0) (pa_cons (pe_callB call_len_seq (by rfl) T.z_len PySem.boot_len (pa_cons (pv 3) pa_nil)) pa_nil))))
      (pss_cons (ps_set (i := 5) sc__law_no_model.nd rfl (.inl rfl) (pe_ix ix_tup (pv 3) (pv 4) (fun _ _ => rfl)))
      (pss_cons (ps_set (i := 6) sc__law_no_model.nd rfl (.inl rfl) (pe_lst (pa_cons (pe_slice sl_tupA (pv 5) po_none (po_some (pe_un un_neg pe_int))) (pa_cons (pe_op op_catA (pv 5) (pe_tup (pa_cons pe_int pa_nil))) (pa_cons (pe_callTy call_list_of (by rfl) T.z_list (by decide +kernel) (pa_cons (pv 5) pa_nil)) (pa_cons (pe_op op_catA (pe_tup (pa_cons (pv 2) pa_nil)) (pe_slice sl_tupA (pv 5) (po_some pe_int) po_none)) (pa_cons (pe_op op_catA (pe_tup (pa_cons (pe_un un_neg pe_int) pa_nil)) (pe_slice sl_tupA (pv 5) (po_some pe_int) po_none)) (pa_cons (pe_op op_catA (pe_tup (pa_cons pe_bl pa_nil)) (pe_slice sl_tupA (pv 5) (po_some pe_int) po_none)) (pa_cons pe_non pa_nil)))))))))
      (pss_cons (ps_set (i := 7) sc__law_no_model.nd rfl (.inl rfl) (pe_op op_catA (pe_op op_catA (pe_slice sl_tupA (pv 3) po_none (po_some (pv 4))) (pe_tup (pa_cons (pe_cl c_pick hr (by first | decide | omega) (by rfl) (pa_cons (pv 0) (pa_cons (pv 6) pa_nil))) pa_nil))) (pe_slice sl_tupA (pv 3) (po_some (pe_op op_add (pv 4) pe_int)) po_none)))
      (pss_cons (ps_set (i := 8) sc__law_no_model.nd rfl (.inl rfl) (pe_lst (pa_cons (pe_tup (pa_cons (pv 2) (pa_cons (pv 7) pa_nil))) (pa_cons (pe_tup (pa_cons (pv 2) (pa_cons (pv 7) pa_nil))) (pa_cons (pe_tup (pa_cons (pe_op op_add (pv 2) pe_int) (pa_cons (pv 3) pa_nil))) (pa_cons (pe_tup (pa_cons pe_int (pa_cons (pv 3) pa_nil))) (pa_cons (pe_tup (pa_cons pe_bl (pa_cons (pv 3) pa_nil))) (pa_cons (pe_tup (pa_cons (pv 2) (pa_cons (pe_callTy call_list_of (by rfl) T.z_list (by decide +kernel) (pa_cons (pv 3) pa_nil)) pa_nil))) pa_nil))))))))
      (pss_cons (ps_set (i := 8) sc__law_no_model.nd rfl (.inl rfl) (pe_op op_cat (pv 8) (pe_lst (pa_cons (pe_tup (pa_cons (pv 2) (pa_cons (pe_slice sl_tupA (pv 3) po_none (po_some (pe_un un_neg pe_int))) pa_nil))) (pa_cons (pe_tup (pa_cons (pv 2) (pa_cons (pe_op op_catA (pv 3) (pe_tup (pa_cons (pe_ix ix_tup (pv 3) pe_int (fun _ _ => rfl)) pa_nil))) pa_nil))) pa_nil)))))
      (pss_one (ps_ret (pe_cl c_pick hr (by first | decide | omega) (by rfl) (pa_cons (pv 0) (pa_cons (pe_op op_cat (pv 8) (pe_lst (pa_cons pe_non (pa_cons (pv 3) (pa_cons (pe_tup (pa_cons (pv 2) (pa_cons (pv 3) (pa_cons pe_int pa_nil)))) (pa_cons (pe_lst (pa_cons (pv 2) (pa_cons (pv 3) pa_nil))) pa_nil)))))) pa_nil)))))))))))), ?_⟩
    obtain ⟨b, tv, rfl, hB, hT⟩ := id hM
    obtain ⟨tb, us, rfl, hU, pr⟩ := id hT
    have lu := paired_len pr
    have ln := mo.len
    have s1 := so.l1
    have s4 := so.l4
    have n6 := mo.n6
    have n1 := mo.n1
    refine ⟨.ref b, rfl, b, _, rfl, hB, rfl, _, _, rfl, _, _, rfl, rfl, ?_⟩
    show tSeq _ _ _ [some (.ref p), some (.ref b), some (vi n), some (.ref tb), none, none, none, none, none] H
    refine do_draw (n := us.length) (ev_var rfl) (ev_lenT (ev_var rfl) hU) pu (by omega) (by omega) (by omega) fun k H1 hk o1 pu1 => ?_
    have hU1 := o1.et pu _ _ hU
    have hT1 : Tabs K H1 (.ref tb) ts := ⟨tb, us, rfl, hU1, paired_imp (fun _ _ z => z.et (o1.et pu)) pr⟩
    have hts : k < ts.length := by omega
    obtain ⟨x, hx, nx⟩ : ∃ x, us[k]? = some x ∧ Nats K H1 x ts[k] := by
      obtain ⟨y, e, r⟩ := paired_at (paired_imp (fun _ _ z => z.et (o1.et pu)) pr) (List.getElem?_eq_getElem hk)
      rw [List.getElem?_eq_getElem hts] at e
      cases e
      exact ⟨_, List.getElem?_eq_getElem hk, r⟩
    have tab := mo.tab k (by omega) hts
    have hpl : plOf sg k = (sg[k]'(by omega)).2 := by
      unfold plOf
      rw [List.getD_eq_getElem?_getD, List.getElem?_eq_getElem (by omega)]
      rfl
    have lt : ts[k].length = n ^ plOf sg k := by rw [hpl]; exact tab.len
    have npos : 1 ≤ n ^ plOf sg k := Nat.pow_pos mo.n1
    have pl2 : plOf sg k ≤ 2 := by
      rw [hpl]
      exact so.pl _ (List.getElem_mem _)
    have nbig : n ^ plOf sg k ≤ 36 := by
      have h1 : n ^ plOf sg k ≤ 6 ^ plOf sg k := Nat.pow_le_pow_left n6 _
      have h2 : 6 ^ plOf sg k ≤ 6 ^ 2 := Nat.pow_le_pow_right (by decide) pl2
      omega
    generalize htk : ts[k] = tk at *
    show tSeq _ _ _ [some (.ref p), some (.ref b), some (vi n), some (.ref tb), some (vi k), none, none, none, none] H1
    refine q_asg (ev_op (ev_var rfl) (ev_var rfl) (rv_ixT (K := K) hU1 (atI_vi hx))) fun H2 e2 => ?_
    have N2 := nx.ex e2
    have td2 : TD K p c (tk.map intD) x H2 := nats_td N2
    have pu2 := pu1.ex e2
    have ld : (tk.map intD).length = n ^ plOf sg k := by rw [List.length_map, lt]
    show tSeq _ _ _ [some (.ref p), some (.ref b), some (vi n), some (.ref tb), some (vi k), some x, none, none, none] H2
    have tdv : ∀ {σ : L2.St}, σ[5]? = some (some x) → EvP (tVar 5) σ H2 (TD K p c (tk.map intD)) := fun h => td_ev (ev_var h) td2
    have k1 : ∀ {σ : L2.St} {te : TE} {d : PyData}, EvP te σ H2 (fun v H' => Dz K p c H' v d) → BadT n (plOf sg k) d → EvP te σ H2 (DzP K p c (BadT n (plOf sg k))) := fun h b => h.imp fun _ _ _ z => ⟨_, z, b⟩
    refine q_asgP (P := LsR (DzP K p c (BadT n (plOf sg k))) p c 7) (ep_lstR (n := 7) DzP.st (eas_cons DzP.st (k1 (td_dz (td_last (tdv rfl) (by omega) ev_neg1)) (bad_len (by rw [List.length_take]; omega)))
      (eas_cons DzP.st (k1 (td_dz (td_cat (tdv rfl) (td_tup (eds_cons (dz_int (i := 0) ev_c) eds_nil) (by show 1 ≤ 100000; decide)) (by show _ + 1 ≤ _; omega))) (bad_len (by rw [List.length_append]; show _ + 1 ≠ _; omega)))
      (eas_cons DzP.st (k1 (dz_list (ev_var rfl) td2 pu2) (.inl rfl))
      (eas_cons DzP.st (k1 (td_dz (td_cat (td_tup (eds_cons (dz_nat (i := n) (ev_var rfl)) eds_nil) (by show 1 ≤ 100000; decide)) (td_from (k := 1) (tdv rfl) ev_c) (by rw [List.length_drop]; show 1 + _ ≤ _; omega))) (bad_first (below_self n)))
      (eas_cons DzP.st (k1 (td_dz (td_cat (td_tup (eds_cons (dz_int (i := -1) ev_neg1) eds_nil) (by show 1 ≤ 100000; decide)) (td_from (k := 1) (tdv rfl) ev_c) (by rw [List.length_drop]; show 1 + _ ≤ _; omega))) (bad_first (below_neg n)))
      (eas_cons DzP.st (k1 (td_dz (td_cat (td_tup (eds_cons (dz_bl (b := true) ev_c) eds_nil) (by show 1 ≤ 100000; decide)) (td_from (k := 1) (tdv rfl) ev_c) (by rw [List.length_drop]; show 1 + _ ≤ _; omega))) (bad_first rfl))
      (eas_cons DzP.st (k1 (dz_non ev_c) (.inl rfl)) eas_nil))))))) (by decide) pu2) fun lv H3 e3 hl => ?_
    have hT3 := (hT1.ex e2).ex e3
    have td3 : TD K p c (ts.map dN) (.ref tb) H3 := tabs_td hT3
    have pu3 := pu2.ex e3
    have lts : (ts.map dN).length = sg.length := by rw [List.length_map, ln]
    show tSeq _ _ _ [some (.ref p), some (.ref b), some (vi n), some (.ref tb), some (vi k), some x, some lv, none, none] H3
    refine do_bent (φ := BadT n (plOf sg k)) (t2 := t + 2) pu3 (td_to (k := k) (td_ev (ev_var rfl) td3) (ev_var rfl)) (fun H4 e4 Q2 q2 => do_pickR (K := K) (ev_var rfl) (pu3.ex e4) (by omega) (ep_ev (ev_var rfl) fun _ e => (LsR.ex DzP.st (e4.trans e) hl)) (by decide) (by decide) (fun _ _ _ p o z => z.off p o) fun r H5 o5 pu5 hr5 => q2 r H5 o5 pu5 hr5) (fun H5 o5 => td_from (k := k + 1) (td_ev (ev_var rfl) (td3.off pu3 o5)) (ev_is (ev_op (ev_var rfl) ev_c rv_I0) rfl)) (by rw [List.length_take, List.length_drop]; omega) fun bv d H6 o6 pu6 bd hbv => ?_
    have t6 : Tabs K H6 (.ref tb) ts := hT3.et (o6.et pu3)
    have td6 : TD K p c (ts.map dN) (.ref tb) H6 := tabs_td t6
    have bent : NoMd sg (.tuple [intD n, .tuple ((ts.map dN).take k ++ [d] ++ (ts.map dN).drop (k + 1))]) := by
      refine mod_bent (k := k) (by omega) (by rw [List.length_append, List.length_append, List.length_take, List.length_drop]; show _ + 1 + _ = _; omega) ?_
      have : ((ts.map dN).take k ++ [d] ++ (ts.map dN).drop (k + 1)).getD k .none = d := by
        rw [List.getD_eq_getElem?_getD, List.append_assoc, List.getElem?_append_right (by rw [List.length_take]; omega), List.length_take, Nat.min_eq_left (by omega), Nat.sub_self]
        rfl
      rw [this]
      exact bd
    show tSeq _ _ _ [some (.ref p), some (.ref b), some (vi n), some (.ref tb), some (vi k), some x, some lv, some bv, none] H6
    have tt : ∀ {σ : L2.St} {H7 : Hp}, Ex H6 H7 → σ[3]? = some (some (.ref tb)) → EvP (tVar 3) σ H7 (TD K p c (ts.map dN)) := fun e h => td_ev (ev_var h) (td6.ex e)
    have k2 : ∀ {σ : L2.St} {H7 : Hp} {te : TE} {d : PyData}, EvP te σ H7 (fun v H' => Dz K p c H' v d) → NoMd sg d → EvP te σ H7 (DzP K p c (NoMd sg)) := fun h b => h.imp fun _ _ _ z => ⟨_, z, b⟩
    have pair : ∀ {σ : L2.St} {H7 : Hp} {ta tb : TE} {d1 d2 : PyData}, EvP ta σ H7 (fun v H' => Dz K p c H' v d1) → EvP tb σ H7 (fun v H' => Dz K p c H' v d2) → NoMd sg (.tuple [d1, d2]) → EvP (tTup (tCons ta (tCons tb tNil))) σ H7 (DzP K p c (NoMd sg)) := fun h1 h2 h => k2 (dz_tup (eds_cons h1 (eds_cons h2 eds_nil)) (by show 2 ≤ 100000; decide)) h
    have bp : ∀ {σ : L2.St}, σ[2]? = some (some (vi n)) → σ[7]? = some (some bv) → EvP (tTup (tCons (tVar 2) (tCons (tVar 7) tNil))) σ H6 (DzP K p c (NoMd sg)) := fun h1 h2 => pair (dz_nat (ev_var h1)) (dz_ev (ev_var h2) hbv.dz) bent
    refine q_asgP (P := LsR (DzP K p c (NoMd sg)) p c 6) (ep_lstR (n := 6) DzP.st (eas_cons DzP.st (bp rfl rfl) (eas_cons DzP.st (bp rfl rfl)
      (eas_cons DzP.st (pair (dz_int (i := (n : Int) + 6) (ev_is (ev_op (ev_var rfl) ev_c rv_I0) rfl)) (td_dz (tt (Ex.refl _) rfl)) (mod_size (by show (decide (1 ≤ (n : Int) + 6) && decide ((n : Int) + 6 ≤ 6)) = false; rw [Bool.and_eq_false_iff]; exact .inr (decide_eq_false (by omega)))))
      (eas_cons DzP.st (pair (dz_int (i := 0) ev_c) (td_dz (tt (Ex.refl _) rfl)) (mod_size rfl))
      (eas_cons DzP.st (pair (dz_bl (b := true) ev_c) (td_dz (tt (Ex.refl _) rfl)) (mod_size rfl))
      (eas_cons DzP.st (pair (dz_nat (i := n) (ev_var rfl)) (dz_list (ev_var rfl) td6 pu6) mod_list) eas_nil)))))) (by decide) pu6) fun mv H7 e7 hm => ?_
    have pu7 := pu6.ex e7
    show tSeq _ _ _ [some (.ref p), some (.ref b), some (vi n), some (.ref tb), some (vi k), some x, some lv, some bv, some mv] H7
    obtain ⟨x0, hx0, n0⟩ : ∃ x0, us[0]? = some x0 ∧ Nats K H6 x0 (ts[0]'(by omega)) := by
      obtain ⟨y, e, r⟩ := paired_at (paired_imp (fun _ _ z => ((z.et (o1.et pu)).ex (e2.trans e3)).et (o6.et pu3)) pr) (List.getElem?_eq_getElem (show 0 < us.length by omega))
      rw [List.getElem?_eq_getElem (show 0 < ts.length by omega)] at e
      cases e
      exact ⟨_, List.getElem?_eq_getElem (by omega), r⟩
    have hU6 := o6.et pu3 _ _ (ex_t (e2.trans e3) hU1)
    refine q_asgP (P := LsR (DzP K p c (NoMd sg)) p c 8) (ep_catR (n1 := 6) (n2 := 2) DzP.st (ep_ev (ev_var rfl) fun _ e => LsR.ex DzP.st e hm) (ep_lstR (n := 2) DzP.st (eas_cons DzP.st (pair (dz_nat (i := n) (ev_var rfl)) (td_dz (td_last (tt e7 rfl) (by omega) ev_neg1)) (mod_short (by rw [List.length_take]; omega)))
      (eas_cons DzP.st (pair (dz_nat (i := n) (ev_var rfl)) (td_dz (td_cat (tt e7 rfl) (td_tup (eds_cons (dz_ev (d := .tuple ((ts[0]'(by omega)).map intD)) (ev_op (ev_var rfl) ev_c (rv_ixT (K := K) (ex_t e7 hU6) (atI_vi (k := 0) hx0))) (nats_td (n0.ex e7)).dz) eds_nil) (by show 1 ≤ 100000; decide)) (by show _ + 1 ≤ _; omega))) (mod_short (by rw [List.length_append]; show _ + 1 ≠ _; omega))) eas_nil)) (by decide) pu7) (by decide) pu7) fun mv2 H8 e8 hm2 => ?_
    have pu8 := pu7.ex e8
    have e68 := e7.trans e8
    have notp : NoMd sg (.tuple (ts.map dN)) := by
      intro z
      match ts, z with
      | [], z => cases z
      | [_], z => cases z
      | [s, u], z => exact mod_size (k := dN s) rfl z
      | _ :: _ :: _ :: _, z => cases z
    show tRet _ _ [some (.ref p), some (.ref b), some (vi n), some (.ref tb), some (vi k), some x, some lv, some bv, some mv2] H8
    refine do_ret (do_pickR (K := K) (t := t + 2) (n := 12) (ev_var rfl) pu8 (by omega) (ep_catR (n1 := 8) (n2 := 4) DzP.st (ep_ev (ev_var rfl) fun _ e => LsR.ex DzP.st e hm2) (ep_lstR (n := 4) DzP.st (eas_cons DzP.st (k2 (dz_non ev_c) (fun z => by cases z)) (eas_cons DzP.st (k2 (td_dz (tt e68 rfl)) notp)
      (eas_cons DzP.st (k2 (dz_tup (eds_cons (dz_nat (i := n) (ev_var rfl)) (eds_cons (td_dz (tt e68 rfl)) (eds_cons (dz_int (i := 0) ev_c) eds_nil))) (by show 3 ≤ 100000; decide)) (fun z => by cases z))
      (eas_cons DzP.st (k2 (dz_lst (eds_cons (dz_nat (i := n) (ev_var rfl)) (eds_cons (td_dz (tt e68 rfl)) eds_nil)) (by show 2 ≤ 100000; decide) pu8) (fun z => by cases z)) eas_nil)))) (by decide) pu8) (by decide) pu8) (by decide) (by decide) (fun _ _ _ p o z => z.off p o) fun r H9 o9 pu9 hr9 => q r H9 ?_ pu9 hr9)
    exact (((o1.trans (.of_ex (e2.trans e3))).trans o6).trans (.of_ex e68)).trans o9
end
end K24
end
section
namespace K24
open PySem PySem.Spec PyProof.Rows L2 Evl RZ Dw M20 M25
/-- what is no order of so many -/
def NoOd (n : Nat) (d : PyData) : Prop := ordB n d = false ∧ lenD d ≤ n + 1
theorem nord_len {n : Nat} {ds : List PyData} (h : ds.length ≠ n) (l : ds.length ≤ n + 1) : NoOd n (.tuple ds) := ⟨by
  show (decide (ds.length = n) && unlB n ds) = false
  rw [decide_eq_false h]
  rfl, l⟩
theorem nord_mem {n : Nat} {ds : List PyData} {x : PyData} (m : x ∈ ds) (h : belowB n x = false) (l : ds.length ≤ n + 1) : NoOd n (.tuple ds) := ⟨by
  show (decide (ds.length = n) && (ds.all (belowB n) && decide ((ds.map natOf).Nodup))) = false
  have : ds.all (belowB n) = false := by
    cases h2 : ds.all (belowB n) with
    | false => rfl
    | true => rw [List.all_eq_true.mp h2 x m] at h; cases h
  rw [this, Bool.false_and, Bool.and_false], l⟩
theorem nord_twice {n : Nat} {ds : List PyData} (h : ¬ (ds.map natOf).Nodup) (l : ds.length ≤ n + 1) : NoOd n (.tuple ds) := ⟨by
  show (decide (ds.length = n) && (ds.all (belowB n) && decide ((ds.map natOf).Nodup))) = false
  rw [decide_eq_false h, Bool.and_false, Bool.and_false], l⟩
section
variable {P : Program} {w : World} {K : PySem.W.Frag} {mg : Str → Option Value} {base : Heap}
def sp_no_order (K : PySem.W.Frag) : Sp := fun vs H Q _ => ∃ (p c : Addr) (t : Nat) (v : V) (n : Nat) (o : List Nat), vs = [.ref p, v] ∧ Pur H p c t ∧ t ≤ 80000 ∧ Nats K H v o ∧ Ord n o ∧ 1 ≤ n ∧ n ≤ 6 ∧ ∀ r H', Off H H' p c → Pur H' p c (t + 1) → DzP K p c (NoOd n) r H' → Q r H'
theorem c_no_order (T : Txt mg) (D : Df K mg "_law_no_order" s__law_no_order ["_law_purse_here", "_law_order_here"]) (c_pick : Cl P w K mg base 2 "_law_pick" (sp_pick K)) : Cl P w K mg base 3 "_law_no_order" (sp_no_order K) := by
  refine cl_of (k := 2) D sc__law_no_order (fun vs H Q E h => ?_) (fun f cdv A outer s H vs Q E hr h => ?_)
  · obtain ⟨p, c, t, v, n, o, rfl, _⟩ := h
    rfl
  · obtain ⟨p, c, t, v, n, o, rfl, pu, t1, hN, od, n1, n6, q⟩ := h
    refine ⟨_, (pss_cons (ps_set (i := 2) sc__law_no_order.nd rfl (.inl rfl) (pe_lst (pa_cons (pe_slice sl_tupA (pv 1) po_none (po_some (pe_un un_neg pe_int))) (pa_cons (pe_op op_catA (pv 1) (pe_tup (pa_cons pe_int pa_nil))) (pa_cons (pe_callTy call_list_of (by rfl) T.z_list (by decide +kernel) (pa_cons (pv 1) pa_nil)) (pa_cons (pe_op op_catA (pe_slice sl_tupA (pv 1) po_none (po_some (pe_un un_neg pe_int))) (pe_tup (pa_cons (pe_callB call_len_seq (by rfl) T.z_len PySem.boot_len (pa_cons (pv 1) pa_nil)) pa_nil))) (pa_cons (pe_op op_catA (pe_tup (pa_cons (pe_un un_neg pe_int) pa_nil)) (pe_slice sl_tupA (pv 1) (po_some pe_int) po_none)) (pa_cons pe_non (pa_cons pe_str (pa_cons (pe_tup (pa_cons pe_non pa_nil)) pa_nil))))))))))
      (pss_cons (ps_set (i := 2) sc__law_no_order.nd rfl (.inl rfl) (pe_op op_cat (pv 2) (pe_lst (pa_cons (pe_op op_catA (pe_tup (pa_cons pe_bl pa_nil)) (pe_slice sl_tupA (pv 1) (po_some pe_int) po_none)) (pa_cons (pe_op op_catA (pe_tup (pa_cons pe_str pa_nil)) (pe_slice sl_tupA (pv 1) (po_some pe_int) po_none)) (pa_cons (pe_op op_catA (pv 1) (pe_tup (pa_cons (pe_callB call_len_seq (by rfl) T.z_len PySem.boot_len (pa_cons (pv 1) pa_nil)) pa_nil))) (pa_cons (pe_op op_catA (pe_tup (pa_cons (pe_lst (pa_cons pe_int pa_nil)) pa_nil)) (pe_slice sl_tupA (pv 1) (po_some pe_int) po_none)) pa_nil)))))))
      (pss_cons (ps_set (i := 2) sc__law_no_order.nd rfl (.inl rfl) (pe_op op_cat (pv 2) (pe_lst (pa_cons (pe_op op_catA (pe_slice sl_tupA (pv 1) po_none (po_some (pe_un un_neg pe_int))) (pe_tup (pa_cons pe_bl pa_nil))) (pa_cons (pe_op op_catA (pe_slice sl_tupA (pv 1) po_none (po_some (pe_un un_neg pe_int))) (pe_tup (pa_cons (pe_un un_neg pe_int) pa_nil))) pa_nil)))))
      (pss_cut (ps_if (pt_cmpR op_gt (pe_callB call_len_seq (by rfl) T.z_len PySem.boot_len (pa_cons (pv 1) pa_nil)) pe_int (nomark _))
        (pss_one (ps_set (i := 2) sc__law_no_order.nd rfl (.inl rfl) (pe_op op_cat (pv 2) (pe_lst (pa_cons (pe_op op_catA (pe_slice sl_tupA (pv 1) po_none (po_some pe_int)) (pe_slice sl_tupA (pv 1) po_none (po_some (pe_un un_neg pe_int)))) (pa_cons (pe_op op_catA (pe_tup (pa_cons (pe_ix ix_tup (pv 1) pe_int (fun _ _ => rfl)) pa_nil)) (pe_slice sl_tupA (pv 1) (po_some pe_int) po_none)) pa_nil))))))
        pss_nil)
      (pss_one (ps_ret (pe_cl c_pick hr (by first | decide | omega) (by rfl) (pa_cons (pv 0) (pa_cons (pv 2) pa_nil))))))))), ?_⟩
    have lo := od.len
    have ld : (o.map intD).length = n := by rw [List.length_map, lo]
    obtain ⟨oa, rfl, hO⟩ := id hN
    have lo2 : (o.map vi).length = n := by rw [List.length_map, lo]
    have td : ∀ {σ : L2.St} {H1 : Hp}, Ex H H1 → σ[1]? = some (some (.ref oa)) → EvP (tVar 1) σ H1 (TD K p c (o.map intD)) := fun e h => td_ev (ev_var h) (nats_td (hN.ex e))
    have ln : ∀ {σ : L2.St} {H1 : Hp}, Ex H H1 → σ[1]? = some (some (.ref oa)) → Ev (tCB (rLenS K) (tCons (tVar 1) tNil)) σ H1 (vi n) := fun e h => ev_is (ev_lenT (ev_var h) (ex_t e hO)) (by rw [lo2])
    have k1 : ∀ {σ : L2.St} {H1 : Hp} {te : TE} {d : PyData}, EvP te σ H1 (fun v H' => Dz K p c H' v d) → NoOd n d → EvP te σ H1 (DzP K p c (NoOd n)) := fun h b => h.imp fun _ _ _ z => ⟨_, z, b⟩
    -- one thing in front of the rest
    have front : ∀ {σ : L2.St} {H1 : Hp} {te : TE} {d : PyData}, Ex H H1 → σ[1]? = some (some (.ref oa)) → EvP te σ H1 (fun v H' => Dz K p c H' v d) → belowB n d = false → EvP (tOp (rCatA K) (tTup (tCons te tNil)) (tSl (rSlA K) (tVar 1) (tPart (tC (.int 1))) tNoPart)) σ H1 (DzP K p c (NoOd n)) := fun e h hd b => k1 (td_dz (td_cat (td_tup (eds_cons hd eds_nil) (by show 1 ≤ 100000; decide)) (td_from (k := 1) (td e h) ev_c) (by rw [List.length_drop]; show 1 + _ ≤ _; omega))) (nord_mem (List.mem_append_left _ (List.mem_singleton.mpr rfl)) b (by rw [List.length_append, List.length_drop]; show 1 + _ ≤ _; omega))
    -- one thing in the place of the last
    have back : ∀ {σ : L2.St} {H1 : Hp} {te tn : TE} {d : PyData}, Ex H H1 → σ[1]? = some (some (.ref oa)) → Ev tn σ H1 (.int (-1)) → EvP te σ H1 (fun v H' => Dz K p c H' v d) → belowB n d = false → EvP (tOp (rCatA K) (tSl (rSlA K) (tVar 1) tNoPart (tPart tn)) (tTup (tCons te tNil))) σ H1 (DzP K p c (NoOd n)) := fun e h h1 hd b => k1 (td_dz (td_cat (td_last (td e h) (by omega) h1) (td_tup (eds_cons hd eds_nil) (by show 1 ≤ 100000; decide)) (by rw [List.length_take]; show _ + 1 ≤ _; omega))) (nord_mem (List.mem_append_right _ (List.mem_singleton.mpr rfl)) b (by rw [List.length_append, List.length_take]; show _ + 1 ≤ _; omega))
    -- one thing more
    have more : ∀ {σ : L2.St} {H1 : Hp} {te : TE} {d : PyData}, Ex H H1 → σ[1]? = some (some (.ref oa)) → EvP te σ H1 (fun v H' => Dz K p c H' v d) → EvP (tOp (rCatA K) (tVar 1) (tTup (tCons te tNil))) σ H1 (DzP K p c (NoOd n)) := fun e h hd => k1 (td_dz (td_cat (td e h) (td_tup (eds_cons hd eds_nil) (by show 1 ≤ 100000; decide)) (by show _ + 1 ≤ _; omega))) (nord_len (by rw [List.length_append]; show _ + 1 ≠ _; omega) (by rw [List.length_append]; show _ + 1 ≤ _; omega))
    have e0 := Ex.refl H
    refine q_asgP (P := LsR (DzP K p c (NoOd n)) p c 8) (ep_lstR (n := 8) DzP.st (eas_cons DzP.st (k1 (td_dz (td_last (td e0 rfl) (by omega) ev_neg1)) (nord_len (by rw [List.length_take]; omega) (by rw [List.length_take]; omega)))
      (eas_cons DzP.st (more e0 rfl (dz_int (i := 0) ev_c))
      (eas_cons DzP.st (k1 (dz_list (ev_var rfl) (nats_td hN) pu) ⟨rfl, Nat.zero_le _⟩)
      (eas_cons DzP.st (back e0 rfl ev_neg1 (dz_nat (i := n) (ln e0 rfl)) (below_self n))
      (eas_cons DzP.st (front e0 rfl (dz_int (i := -1) ev_neg1) (below_neg n))
      (eas_cons DzP.st (k1 (dz_non ev_c) ⟨rfl, Nat.zero_le _⟩)
      (eas_cons DzP.st (k1 (dz_str (x := "order") ev_c) ⟨rfl, Nat.zero_le _⟩)
      (eas_cons DzP.st (k1 (dz_tup (ds := [.none]) (eds_cons (dz_non ev_c) eds_nil) (by show 1 ≤ 100000; decide)) (nord_mem (List.mem_singleton.mpr rfl) rfl (by show 1 ≤ n + 1; omega))) eas_nil)))))))) (by decide) pu) fun l1 H1 e1 hl1 => ?_
    have pu1 := pu.ex e1
    show tSeq _ _ _ [some (.ref p), some (.ref oa), some l1] H1
    refine q_asgP (P := LsR (DzP K p c (NoOd n)) p c 12) (ep_catR (n1 := 8) (n2 := 4) DzP.st (ep_ev (ev_var rfl) fun _ e => LsR.ex DzP.st e hl1) (ep_lstR (n := 4) DzP.st (eas_cons DzP.st (front e1 rfl (dz_bl (b := true) ev_c) rfl)
      (eas_cons DzP.st (front e1 rfl (dz_str (x := "0") ev_c) rfl)
      (eas_cons DzP.st (more e1 rfl (dz_nat (i := n) (ln e1 rfl)))
      (eas_cons DzP.st (front e1 rfl (dz_lst (ds := [.int 0]) (eds_cons (dz_int (i := 0) ev_c) eds_nil) (by show 1 ≤ 100000; decide) pu1) rfl) eas_nil)))) (by decide) pu1) (by decide) pu1) fun l2 H2 e2 hl2 => ?_
    have pu2 := pu1.ex e2
    have e02 := e1.trans e2
    show tSeq _ _ _ [some (.ref p), some (.ref oa), some l2] H2
    refine q_asgP (P := LsR (DzP K p c (NoOd n)) p c 14) (ep_catR (n1 := 12) (n2 := 2) DzP.st (ep_ev (ev_var rfl) fun _ e => LsR.ex DzP.st e hl2) (ep_lstR (n := 2) DzP.st (eas_cons DzP.st (back e02 rfl ev_neg1 (dz_bl (b := false) ev_c) rfl)
      (eas_cons DzP.st (back e02 rfl ev_neg1 (dz_int (i := -1) ev_neg1) (below_neg n)) eas_nil)) (by decide) pu2) (by decide) pu2) fun l3 H3 e3 hl3 => ?_
    have pu3 := pu2.ex e3
    have e03 := e02.trans e3
    show tCut _ _ _ [some (.ref p), some (.ref oa), some l3] H3
    refine q_cut (M := fun σ' H' => Ex H3 H' ∧ ∃ (m : Nat) (l4 : V), 14 ≤ m ∧ m ≤ 16 ∧ LsR (DzP K p c (NoOd n)) p c m l4 H' ∧ σ' = [some (.ref p), some (.ref oa), some l4]) ?_ (fun σ' H4 hM => ?_)
    · refine s_when (b := decide (n > 1)) (et_test (ev_is (ev_op (ln e03 rfl) ev_c rv_I0) (by
        show V.bl (decide (((n : Nat) : Int) > 1)) = _
        congr 1
        exact decide_eq_decide.mpr ⟨fun z => by omega, fun z => by omega⟩))) (fun hb H4 e4 => ?_) (fun hb H4 e4 => ⟨e4, 14, l3, by decide, by decide, LsR.ex DzP.st e4 hl3, rfl⟩)
      have n2 : 2 ≤ n := by have := of_decide_eq_true hb; omega
      have e04 := e03.trans e4
      have pu4 := pu3.ex e4
      obtain ⟨x, y, rest, ho⟩ : ∃ x y rest, o = x :: y :: rest := by
        match o, lo with
        | x :: y :: rest, _ => exact ⟨x, y, rest, rfl⟩
        | [], lo => exact absurd (show (0 : Nat) = n from lo) (by omega)
        | [x], lo => exact absurd (show (1 : Nat) = n from lo) (by omega)
      subst ho
      have lr : rest.length + 2 = n := by simpa using lo
      refine s_asgP (P := LsR (DzP K p c (NoOd n)) p c 16) (ep_catR (n1 := 14) (n2 := 2) DzP.st (ep_ev (ev_var rfl) fun _ e => LsR.ex DzP.st (e4.trans e) hl3) (ep_lstR (n := 2) DzP.st (eas_cons DzP.st (k1 (td_dz (td_cat (td_to (k := 1) (td e04 rfl) ev_c) (td_last (td e04 rfl) (by omega) ev_neg1) (by rw [List.length_take, List.length_take]; omega))) (nord_twice (fun z => by
          have e : ((x :: y :: rest).map intD).take 1 ++ ((x :: y :: rest).map intD).take (((x :: y :: rest).map intD).length - 1) = intD x :: intD x :: ((y :: rest).map intD).take rest.length := by
            rw [ld, ← lr]
            rfl
          rw [e, List.map_cons, List.map_cons] at z
          exact (List.nodup_cons.mp z).1 (List.mem_cons_self ..)) (by rw [List.length_append, List.length_take, List.length_take]; omega)))
        (eas_cons DzP.st (k1 (td_dz (td_cat (td_tup (eds_cons (dz_nat (i := y) (ev_op (ev_var rfl) ev_c (rv_ixT (K := K) (ex_t e04 hO) (atI_vi (k := 1) rfl)))) eds_nil) (by show 1 ≤ 100000; decide)) (td_from (k := 1) (td e04 rfl) ev_c) (by rw [List.length_drop]; show 1 + _ ≤ _; omega))) (nord_twice (fun z => by
          have e : [intD y] ++ ((x :: y :: rest).map intD).drop 1 = intD y :: intD y :: rest.map intD := rfl
          rw [e, List.map_cons, List.map_cons] at z
          exact (List.nodup_cons.mp z).1 (List.mem_cons_self ..)) (by rw [List.length_append, List.length_drop]; show 1 + _ ≤ _; omega))) eas_nil)) (by decide) pu4) (by decide) pu4) fun l4 H5 e5 hl4 => ⟨e4.trans e5, 16, l4, by decide, by decide, hl4, rfl⟩
    · obtain ⟨e4, m, l4, m1, m2, hl4, hσ⟩ := hM
      subst hσ
      exact do_ret (do_pickR (K := K) (t := t) (n := m) (ev_var rfl) (pu3.ex e4) (by omega) (ep_ev (ev_var rfl) fun _ e => LsR.ex DzP.st e hl4) (by omega) (by omega) (fun _ _ _ p o z => z.off p o) fun r H9 o9 pu9 hr9 => q r H9 ((Off.of_ex (e03.trans e4)).trans o9) pu9 hr9)
end
end K24
end
section
namespace K24
open PySem PySem.Spec PyProof.Rows L2 Evl RZ Dw M20 M25
structure GbA (k W : Nat) (ds : List PyData) : Prop where
  lay : PyData.canLayAll0 ds = true
  dep : PyData.depthAll ds ≤ k
  wgt : PyData.weightAll ds ≤ W
  its : PyData.intsShortAll 40 ds = true
  sho : PyData.showableAll ds = true
theorem GbA.mono {k W k' W' : Nat} {d : List PyData} (h : GbA k W d) (a : k ≤ k') (b : W ≤ W') : GbA k' W' d := ⟨h.lay, Nat.le_trans h.dep a, Nat.le_trans h.wgt b, h.its, h.sho⟩
theorem gba_nil : GbA 0 0 [] := ⟨by rw [PyData.canLayAll0], by rw [PyData.depthAll]; exact Nat.le_refl _, by rw [PyData.weightAll]; exact Nat.le_refl _, by rw [PyData.intsShortAll], by rw [PyData.showableAll]⟩
theorem gba_cons {k W W' : Nat} {d : PyData} {ds : List PyData} (g : Gb k W d) (h : GbA k W' ds) : GbA k (W + 1 + W') (d :: ds) := by
  have g1 := g.dep
  have g2 := g.wgt
  have h1 := h.dep
  have h2 := h.wgt
  exact ⟨by rw [PyData.canLayAll0, g.lay, h.lay]; rfl, by rw [PyData.depthAll]; omega, by rw [PyData.weightAll]; omega, by rw [PyData.intsShortAll, g.its, h.its]; rfl, by rw [PyData.showableAll, g.sho, h.sho]; rfl⟩
theorem gba_one {k W : Nat} {d : PyData} (g : Gb k W d) : GbA k (W + 1) [d] := gba_cons g (gba_nil.mono (Nat.zero_le _) (Nat.le_refl _))
theorem gba_app {k W W' : Nat} : ∀ {as bs : List PyData}, GbA k W as → GbA k W' bs → GbA k (W + W') (as ++ bs)
  | [], bs, _, h => h.mono (Nat.le_refl _) (by omega)
  | d :: as, bs, g, h => by
    have g1 := g.lay
    have g2 := g.dep
    have g3 := g.wgt
    have g4 := g.its
    have g5 := g.sho
    rw [PyData.canLayAll0, Bool.and_eq_true] at g1
    rw [PyData.depthAll] at g2
    rw [PyData.weightAll] at g3
    rw [PyData.intsShortAll, Bool.and_eq_true] at g4
    rw [PyData.showableAll, Bool.and_eq_true] at g5
    have r := gba_app (k := k) (W := PyData.weightAll as) (W' := W') (as := as) (bs := bs) ⟨g1.2, by omega, Nat.le_refl _, g4.2, g5.2⟩ h
    exact (gba_cons (k := k) (W := d.weight) ⟨g1.1, by omega, Nat.le_refl _, g4.1, g5.1⟩ r).mono (Nat.le_refl _) (by omega)
theorem gb_tup {k W : Nat} {ds : List PyData} (h : GbA k W ds) : Gb (k + 1) W (.tuple ds) := ⟨by rw [PyData.canLay0]; exact h.lay, by rw [PyData.depth]; have := h.dep; omega, by rw [PyData.weight]; exact h.wgt, by rw [PyData.intsShort]; exact h.its, by rw [PyData.showable]; exact h.sho⟩
theorem gb_lst {k W : Nat} {ds : List PyData} (h : GbA k W ds) : Gb (k + 1) W (.list ds) := ⟨by rw [PyData.canLay0]; exact h.lay, by rw [PyData.depth]; have := h.dep; omega, by rw [PyData.weight]; exact h.wgt, by rw [PyData.intsShort]; exact h.its, by rw [PyData.showable]; exact h.sho⟩
theorem gb_none : Gb 0 0 .none := ⟨by rw [PyData.canLay0], by rw [PyData.depth]; decide, by rw [PyData.weight]; decide, by rw [PyData.intsShort], by rw [PyData.showable]⟩
theorem gb_str {z : Str} (h : (∀ c ∈ z.cps.toList, c < 0x110000) ∧ z.cps.size ≤ 22) : Gb 0 22 (.str z) := ⟨(gd_str h.1 (by omega)).lay, by rw [PyData.depth]; exact Nat.le_refl _, by rw [PyData.weight]; exact h.2, by rw [PyData.intsShort], by rw [PyData.showable]⟩
theorem gb_s {z : Str} (h : (∀ c ∈ z.cps.toList, c < 0x110000) ∧ z.cps.size ≤ 22) : Gb 2 100 (.str z) := (gb_str h).mono (by decide) (by decide)
theorem gb_low {i : Nat} (h : i ≤ 3) : Gb 0 4 (.int (i : Int)) := by
  have : i = 0 ∨ i = 1 ∨ i = 2 ∨ i = 3 := by omega
  rcases this with rfl | rfl | rfl | rfl <;> exact ⟨by rw [PyData.canLay0], by rw [PyData.depth]; decide, by rw [PyData.weight]; decide, by rw [PyData.intsShort]; decide, by rw [PyData.showable]; decide⟩
theorem sig_odd {ds : List PyData} {k : Nat} (hk : k < ds.length) (h : deedB (ds.getD k .none) = false) : sigW (.tuple ds) ≠ .none := by
  rw [sigW]
  split
  · split
    · exact fun z => by cases z
    · rename_i e
      have := List.filter_eq_nil_iff.mp e k (List.mem_range.mpr hk)
      rw [h] at this
      exact absurd rfl this
  · exact fun z => by cases z
theorem sig_len {ds : List PyData} (h : ¬ (1 ≤ ds.length ∧ ds.length ≤ 4)) : sigW (.tuple ds) ≠ .none := by
  rw [sigW, if_neg h]
  exact fun z => by cases z
theorem odd_u : deedB (.tuple [.str "u", .int 2]) = false := by
  show (nameB (.str "u") && belowB 3 (.int 2)) = false
  rw [show nameB (.str "u") = false by decide +kernel]
  rfl
theorem odd_m3 : deedB (.tuple [.str "m", .int 3]) = false := by
  show (nameB (.str "m") && belowB 3 (.int 3)) = false
  rw [show belowB 3 (.int 3) = false by decide, Bool.and_false]
theorem odd_M : deedB (.tuple [.str "M", .int 1]) = false := by
  show (nameB (.str "M") && belowB 3 (.int 1)) = false
  rw [show nameB (.str "M") = false by decide +kernel]
  rfl
/-- what is no signature -/
def GoneD (d : PyData) : Prop := Gb 50 100000 d ∧ sigW d ≠ .none
def deedD (p : Str × Nat) : PyData := .tuple [.str p.1, intD p.2]
theorem name_cps {z : Str} (h : Name z) : ∀ c ∈ z.cps.toList, c < 0x110000 := fun c hc => by
  have m := h.abc c hc
  have : ∀ c ∈ letters.cps.toList, c < 0x110000 := by decide +kernel
  exact this c m
theorem gba_sig : ∀ {sg : List (Str × Nat)}, (∀ x ∈ sg, Name x.1 ∧ x.2 ≤ 2) → GbA 3 (110 * sg.length) (sg.map deedD)
  | [], _ => gba_nil.mono (by decide) (by decide)
  | x :: sg, h => by
    obtain ⟨nm, p2⟩ := h x (List.mem_cons_self ..)
    have g1 : Gb 2 100 (.str x.1) := gb_s ⟨name_cps nm, Nat.le_trans nm.l4 (by decide)⟩
    have g2 : Gb 2 4 (intD x.2) := (gb_low (by omega)).mono (by decide) (Nat.le_refl _)
    have g3 : Gb 3 109 (deedD x) := (gb_tup (gba_cons g1 (gba_one g2))).mono (by decide) (by decide)
    rw [List.map_cons, List.length_cons]
    exact (gba_cons g3 (gba_sig fun y hy => h y (List.mem_cons_of_mem _ hy))).mono (Nat.le_refl _) (by omega)
theorem gb_pair {z : Str} {i : Nat} (h : (∀ c ∈ z.cps.toList, c < 0x110000) ∧ z.cps.size ≤ 22) (hi : i ≤ 3) : Gb 3 109 (deedD (z, i)) := (gb_tup (gba_cons (gb_s h) (gba_one ((gb_low hi).mono (show 0 ≤ 2 by decide) (Nat.le_refl _))))).mono (by decide) (by decide)
section
variable {K : PySem.W.Frag} {σ : L2.St} {H H' : Hp} {n m t : Nat} {p c : Addr} {ta : TA} {te tb : TE} {v : V} {d : PyData} {ds es : List PyData} {sg : List (Str × Nat)}
theorem below_all {n : Nat} : ∀ {vs : List V} {ds : List PyData}, DzAll K p c H vs ds → ds.all (belowB n) = true → vs = (ds.map natOf).map vi ∧ ∀ y ∈ ds.map natOf, y < n
  | _, _, .nil, _ => ⟨rfl, fun y hy => by cases hy⟩
  | _, _, .cons a b, h => by
    rw [List.all_cons, Bool.and_eq_true] at h
    obtain ⟨h1, h2⟩ := below_nat a h.1
    obtain ⟨h3, h4⟩ := below_all b h.2
    refine ⟨by rw [List.map_cons, List.map_cons, h1, h3], fun y hy => ?_⟩
    rw [List.map_cons] at hy
    rcases List.mem_cons.mp hy with e | e
    · rw [e]; exact h2
    · exact h4 y e
theorem sig_td (h : Sig K H v sg) : TD K p c (sg.map deedD) v H := by
  obtain ⟨a, vs, rfl, s, pr⟩ := h
  refine ⟨_, ⟨a, rfl, s⟩, ?_⟩
  clear s
  induction pr with
  | nil => exact .nil
  | cons a b ih =>
    obtain ⟨r, rfl, sr⟩ := a
    exact .cons (.tup sr (.cons (.str _) (.cons (.int _) .nil))) ih
theorem dz_deed {z : Str} {i : Int} : EvP (tTup (tCons (tC (.str z)) (tCons (tC (.int i)) tNil))) σ H (fun v H' => Dz K p c H' v (.tuple [.str z, .int i])) := dz_tup (eds_cons (dz_str ev_c) (eds_cons (dz_int ev_c) eds_nil)) (by show 2 ≤ 100000; decide)
/-- an order of its own size -/
theorem ord_own {k : Nat} (h : Dz K p c H v d) (b : ordB k d = true) : ∃ r, Nats K H v r ∧ Ord k r := by
  have ht : isTup d = true := by cases d <;> first | rfl | cases b
  obtain ⟨a, xs, ds, rfl, rfl, hA, hD⟩ := tup_of h ht
  have b2 : (decide (ds.length = k) && (ds.all (belowB k) && decide ((ds.map natOf).Nodup))) = true := b
  rw [Bool.and_eq_true, Bool.and_eq_true, decide_eq_true_eq, decide_eq_true_eq] at b2
  obtain ⟨e, low⟩ := below_all hD b2.2.1
  refine ⟨ds.map natOf, ⟨a, rfl, by rw [← e]; exact hA⟩, bg_ord.mp ⟨by rw [List.length_map]; exact b2.1, low, b2.2.2⟩⟩
/-! ### what the law calls -/
structure Scn (K : PySem.W.Frag) (p c : Addr) (sg : List (Str × Nat)) (n : Nat) (ts : List (List Nat)) (o : List Nat) (sv mv ov bv xv gv : V) (H : Hp) : Prop where
  hG : Sig K H sv sg
  hM : Mdl K H mv n ts
  hO : Nats K H ov o
  hB : DzP K p c (NoMd sg) bv H
  hX : DzP K p c (NoOd n) xv H
  hW : DzP K p c GoneD gv H
  so : SigOk sg
  mo : MdlOk sg n ts
  od : Ord n o
  n4 : n ≤ 4
variable {ts : List (List Nat)} {o : List Nat} {sv mv ov bv xv gv : V}
theorem Scn.ex (e : Ex H H') (h : Scn K p c sg n ts o sv mv ov bv xv gv H) : Scn K p c sg n ts o sv mv ov bv xv gv H' := ⟨h.hG.ex e, h.hM.ex e, h.hO.ex e, h.hB.ex e, h.hX.ex e, h.hW.ex e, h.so, h.mo, h.od, h.n4⟩
theorem RPre.ex {r : Option Nat} {vs : List V} (e : Ex H H') (h : RPre K r vs H) : RPre K r vs H' := by
  cases r with
  | none => exact CallG.ex e h
  | some i => exact ⟨h.1, CallE.ex e h.2⟩
theorem RfV.ex {r : Option Nat} (e : Ex H H') (h : RfV H v r) : RfV H' v r := by
  cases r with
  | none => exact h
  | some i =>
    obtain ⟨a, ev, ha⟩ := h
    exact ⟨a, ev, e _ _ ha⟩
theorem Scn.good (h : Scn K p c sg n ts o sv mv ov bv xv gv H) {k : Nat} (hk : k < 8) : RPre K none [vi k, sv, mv, mv, ov] H := by
  refine ⟨k, sv, mv, mv, ov, rfl, ?_⟩
  by_cases k6 : k ≤ 6
  · exact .inl ⟨k6, (sg, n, ts), (sg, n, ts), o, ⟨h.hG, h.hM⟩, h.hM, ⟨⟨h.so, h.mo⟩, ⟨h.so, h.mo⟩, rfl⟩, h.hO, h.od⟩
  · exact .inr ⟨by omega, n, o, h.hO, h.od, by have := h.n4; omega⟩
theorem Scn.sg0 (h : Scn K p c sg n ts o sv mv ov bv xv gv H) : SgE K 0 gv H := let ⟨d, z, g, b⟩ := h.hW; ⟨rfl, p, c, d, z, g, b⟩
theorem Scn.md1 (h : Scn K p c sg n ts o sv mv ov bv xv gv H) : MdE K 1 sv bv H := let ⟨d, z, b⟩ := h.hB; ⟨rfl, p, c, sg, d, h.hG, h.so, z, b⟩
theorem Scn.own (h : Scn K p c sg n ts o sv mv ov bv xv gv H) (u m b : V) : ∃ r, RPre K r [vi 7, u, m, b, xv] H := by
  obtain ⟨d, z, nb, l⟩ := h.hX
  have n4 := h.n4
  cases e : ordB (lenD d) d with
  | true =>
    obtain ⟨r, hr, od⟩ := ord_own z e
    exact ⟨none, 7, u, m, b, xv, rfl, .inr ⟨rfl, lenD d, r, hr, od, by omega⟩⟩
  | false => exact ⟨some 2, by decide, 7, u, m, b, xv, rfl, .inr (.inr (.inr (.inl ⟨rfl, xv, xv, rfl, rfl, p, c, d, d, z, z, by omega, .inl e⟩)))⟩
/-- the calls whose first model is what is none, by what of them is wrong -/
theorem Scn.call (h : Scn K p c sg n ts o sv mv ov bv xv gv H) {i : Nat} {u m b : V} (hi : i < 3) (hn : NmE K i [u, m] H) {k : Nat} : ∃ r, (k < 7 → r = some i) ∧ (k < 8 → RPre K r [vi k, u, m, b, xv] H) := by
  by_cases k7 : k < 7
  · refine ⟨some i, fun _ => rfl, fun _ => ⟨hi, k, u, m, b, xv, rfl, ?_⟩⟩
    have : k = 0 ∨ (k = 1 ∨ k = 2 ∨ k = 3 ∨ k = 4) ∨ (k = 5 ∨ k = 6) := by omega
    rcases this with z | z | z
    · exact .inl ⟨z, u, m, xv, rfl, .inl hn⟩
    · exact .inr (.inl ⟨z, hn⟩)
    · exact .inr (.inr (.inl ⟨z, u, m, b, rfl, .inl hn⟩))
  · by_cases k8 : k < 8
    · have : k = 7 := by omega
      subst this
      obtain ⟨r, hr⟩ := h.own u m b
      exact ⟨r, fun z => absurd z (by decide), fun _ => hr⟩
    · exact ⟨none, fun z => absurd z (by omega), fun z => absurd z k8⟩
theorem Scn.c1 (h : Scn K p c sg n ts o sv mv ov bv xv gv H) (k : Nat) : ∃ r, (k < 7 → r = some 0) ∧ (k < 8 → RPre K r [vi k, gv, mv, bv, xv] H) := h.call (by decide) ⟨gv, mv, rfl, .inl h.sg0⟩
theorem Scn.c2 (h : Scn K p c sg n ts o sv mv ov bv xv gv H) (k : Nat) : ∃ r, (k < 7 → r = some 0) ∧ (k < 8 → RPre K r [vi k, gv, bv, bv, xv] H) := h.call (by decide) ⟨gv, bv, rfl, .inl h.sg0⟩
theorem Scn.c3 (h : Scn K p c sg n ts o sv mv ov bv xv gv H) (k : Nat) : ∃ r, (k < 7 → r = some 1) ∧ (k < 8 → RPre K r [vi k, sv, bv, mv, xv] H) := h.call (by decide) ⟨sv, bv, rfl, .inr h.md1⟩
theorem Scn.c56 (h : Scn K p c sg n ts o sv mv ov bv xv gv H) {k : Nat} (hk : k = 5 ∨ k = 6) : RPre K (some 1) [vi k, sv, mv, bv, xv] H := ⟨by decide, k, sv, mv, bv, xv, rfl, .inr (.inr (.inl ⟨hk, sv, mv, bv, rfl, .inr ⟨⟨sg, n, ts, h.hG, h.so, h.hM, h.mo⟩, h.md1⟩⟩))⟩
theorem Scn.l0 (h : Scn K p c sg n ts o sv mv ov bv xv gv H) : RPre K (some 2) [vi 0, sv, mv, mv, xv] H := by
  obtain ⟨d, z, nb, l⟩ := h.hX
  exact ⟨by decide, 0, sv, mv, mv, xv, rfl, .inl ⟨rfl, sv, mv, xv, rfl, .inr ⟨rfl, sg, n, ts, h.hG, h.so, h.hM, h.mo, p, c, d, z, nb⟩⟩⟩
theorem Scn.oz (h : Scn K p c sg n ts o sv mv ov bv xv gv H) : Dz K p c H ov (.tuple (o.map intD)) := (nats_td h.hO).dz
theorem Scn.l1 (h : Scn K p c sg n ts o sv mv ov bv xv gv H) : RPre K (some 2) [vi 8, sv, mv, ov, xv] H := by
  obtain ⟨d, z, nb, l⟩ := h.hX
  have ln : lenD (.tuple (o.map intD)) = n := by
    show (o.map intD).length = n
    rw [List.length_map, h.od.len]
  have n4 := h.n4
  exact ⟨by decide, 8, sv, mv, ov, xv, rfl, .inr (.inr (.inr (.inr ⟨rfl, ov, xv, rfl, rfl, p, c, _, d, h.oz, z, by rw [ln]; omega, .inr (by rw [ln]; exact nb)⟩)))⟩
theorem Scn.l2 (h : Scn K p c sg n ts o sv mv ov bv xv gv H) : RPre K (some 2) [vi 8, sv, mv, xv, ov] H := by
  obtain ⟨d, z, nb, l⟩ := h.hX
  have n4 := h.n4
  refine ⟨by decide, 8, sv, mv, xv, ov, rfl, .inr (.inr (.inr (.inr ⟨rfl, xv, ov, rfl, rfl, p, c, d, _, z, h.oz, by omega, ?_⟩)))⟩
  cases e : ordB (lenD d) d with
  | false => exact .inl rfl
  | true =>
    refine .inr ?_
    have ne : n ≠ lenD d := fun z => by rw [z] at nb; rw [nb] at e; cases e
    show (decide ((o.map intD).length = lenD d) && unlB (lenD d) (o.map intD)) = false
    rw [List.length_map, h.od.len, decide_eq_false ne]
    rfl
end
end K24
end
section
namespace K24
open PySem PySem.Spec PyProof.Rows L2 Evl RZ Dw M20 M25
def truD (i : Nat) : PyData := .list [.bool true, .bool (decide (i = 0)), .bool (decide (i = 1)), .bool (decide (i = 2))]
theorem gd_bl (b : Bool) : Gd 0 0 (.bool b) := ⟨by rw [PyData.canLay0], by rw [PyData.depth]; exact Nat.le_refl _, by rw [PyData.weight]; exact Nat.le_refl _, by rw [PyData.intsShort], by rw [PyData.showable]⟩
theorem gd_truD (i : Nat) : Gd 1 4 (truD i) := gd_lst (k := 0) (W := 0) (L := 4) (fun d hd => by
  rcases List.mem_cons.mp hd with rfl | hd
  · exact gd_bl _
  rcases List.mem_cons.mp hd with rfl | hd
  · exact gd_bl _
  rcases List.mem_cons.mp hd with rfl | hd
  · exact gd_bl _
  rw [List.mem_singleton.mp hd]
  exact gd_bl _) (Nat.le_refl _)
theorem gd_three (i j k : Nat) : Gd 2 15 (.list [truD i, truD j, truD k]) := gd_lst (k := 1) (W := 4) (L := 3) (fun d hd => by
  rcases List.mem_cons.mp hd with rfl | hd
  · exact gd_truD _
  rcases List.mem_cons.mp hd with rfl | hd
  · exact gd_truD _
  rw [List.mem_singleton.mp hd]
  exact gd_truD _) (Nat.le_refl _)
theorem rfv_dp {K : PySem.W.Frag} {H : Hp} {v : V} {i : Nat} (h : RfV H v (some i)) : Dp K H v (truD i) := by
  obtain ⟨a, rfl, ha⟩ := h
  exact .lst (sq_of ha) (.cons (.bl _) (.cons (.bl _) (.cons (.bl _) (.cons (.bl _) .nil))))
section
variable {P : Program} {w : World} {K : PySem.W.Frag} {mg : Str → Option Value} {base : Heap} {σ : L2.St} {H H' : Hp} {ta : TA} {te t1 t2 t3 : TE} {vs : List V} {r : Option Nat}
theorem ep_refd {E : XK} (ha : EvA ta σ H vs) (h : RPre K r vs H) : EvP (tCall (sp_refused K) [] E ta) σ H (fun v H' => RfV H' v r ∧ ∀ d, v = .ref d → H d = none) := fun H1 e Q q => ha H1 e _ fun H2 e2 => by
  rw [List.append_nil]
  exact ⟨r, h.ex (e.trans e2), fun v H3 e3 p nw => q v H3 (e2.trans e3) ⟨p, fun d z => fresh_back (e.trans e2) (nw d z)⟩⟩
theorem et_refG {E : XK} (ha : EvA ta σ H vs) (h : RPre K none vs H) : EvT (tTest (tOp (fun x y H Q => y = .non ∧ Q (.bl (!decide (x = .non))) H) (tCall (sp_refused K) [] E ta) (tC .non))) σ H false := fun H1 e Q q => ep_refd ha h H1 e _ fun v H2 e2 ⟨hv, _⟩ => by
  replace hv : v = .non := hv
  subst hv
  exact ⟨rfl, _, rfl, q H2 e2⟩
theorem ep_bools {a b c d : Bool} : EvP (tLst (tCons (tC (.bl a)) (tCons (tC (.bl b)) (tCons (tC (.bl c)) (tCons (tC (.bl d)) tNil))))) σ H (fun v H' => Dp K H' v (.list [.bool a, .bool b, .bool c, .bool d])) := fun H1 e Q q => el_lst (vs := [.bl a, .bl b, .bl c, .bl d]) (ea_cons ev_c (ea_cons ev_c (ea_cons ev_c (ea_cons ev_c ea_nil)))) (by show 4 ≤ 100000; decide) H1 e _ fun l H2 nl e2 hl => q _ H2 e2 (.lst (sq_of hl) (.cons (.bl _) (.cons (.bl _) (.cons (.bl _) (.cons (.bl _) .nil)))))
theorem ep_three {d1 d2 d3 : PyData} (h1 : EvP t1 σ H (fun v H' => Dp K H' v d1)) (h2 : EvP t2 σ H (fun v H' => Dp K H' v d2)) (h3 : EvP t3 σ H (fun v H' => Dp K H' v d3)) : EvP (tLst (tCons t1 (tCons t2 (tCons t3 tNil)))) σ H (fun v H' => Dp K H' v (.list [d1, d2, d3])) := fun H1 e Q q => do_lst (do_cons (h1 H1 e _ fun u H2 e2 hu => do_cons (h2 H2 (e.trans e2) _ fun w H3 e3 hw => do_cons (h3 H3 ((e.trans e2).trans e3) _ fun x H4 e4 hx => do_nil ⟨by show 3 ≤ sizeLine; decide, fun l nl => by
  have x5 : Ex H4 (upd H4 l (.lst [u, w, x])) := Ex.new nl
  exact q _ _ (((e2.trans e3).trans e4).trans x5) (.lst (sq_of upd_same) (.cons (dpEx ((e3.trans e4).trans x5) hu) (.cons (dpEx (e4.trans x5) hw) (.cons (dpEx x5 hx) .nil))))⟩))))
/-- [x] * 3 -/
theorem ep_rep3 {d : PyData} (h : EvP te σ H (fun v H' => Dp K H' v d)) : EvP (tOp rRep (tLst (tCons te tNil)) (tC (.int 3))) σ H (fun v H' => Dp K H' v (.list [d, d, d])) := fun H1 e Q q => do_op (do_lst (do_cons (h H1 e _ fun u H2 e2 hu => do_nil ⟨by show 1 ≤ sizeLine; decide, fun l nl => do_ev ev_c fun H3 e3 => by
  have x3 : Ex H2 H3 := (Ex.new (o := .lst [u]) nl).trans e3
  refine ⟨l, 3, [u], rfl, rfl, e3 _ _ upd_same, by decide, by decide, by show 3 ≤ sizeLine; decide, fun b nb => ?_⟩
  have x4 : Ex H3 (upd H3 b (.lst [u, u, u])) := Ex.new nb
  have hu4 := dpEx (x3.trans x4) hu
  exact q (.ref b) _ ((e2.trans x3).trans x4) (.lst (sq_of upd_same) (.cons hu4 (.cons hu4 (.cons hu4 .nil))))⟩)))
/-- two answers in a list -/
def TwoR (H : Hp) (r1 r2 : Option Nat) (v : V) (H' : Hp) : Prop := ∃ (l : Addr) (v1 v2 : V) (Hk : Hp), v = .ref l ∧ Ex H Hk ∧ Hk l = none ∧ Ex Hk H' ∧ H' l = some (.lst [v1, v2]) ∧ RfV Hk v1 r1 ∧ RfV Hk v2 r2
theorem ep_two {r1 r2 : Option Nat} {vs1 vs2 : List V} {E : XK} {tb : TA} (ha : EvA ta σ H vs1) (h1 : RPre K r1 vs1 H) (hb : EvA tb σ H vs2) (h2 : RPre K r2 vs2 H) : EvP (tLst (tCons (tCall (sp_refused K) [] E ta) (tCons (tCall (sp_refused K) [] E tb) tNil))) σ H (TwoR H r1 r2) := fun H1 e Q q => do_lst (do_cons (ep_refd ha h1 H1 e _ fun u H2 e2 hu => do_cons (ep_refd hb h2 H2 (e.trans e2) _ fun x H3 e3 hx => do_nil ⟨by show 2 ≤ sizeLine; decide, fun l nl => q _ _ ((e2.trans e3).trans (Ex.new nl)) ⟨l, u, x, H3, rfl, (e.trans e2).trans e3, nl, Ex.new nl, upd_same, hu.1.ex e3, hx.1⟩⟩)))
/-- a third behind the two -/
theorem three_dp {l : Addr} {v1 v2 v3 : V} {i j k : Nat} {Hk H1 H2 : Hp} (nl : Hk l = none) (e : Ex Hk H1) (h1 : RfV Hk v1 (some i)) (h2 : RfV Hk v2 (some j)) (h3 : RfV H1 v3 (some k)) (nw : ∀ d, v3 = .ref d → d ≠ l) : Dp K (upd H1 l (.lst ([v1, v2] ++ [v3]))) (.ref l) (.list [truD i, truD j, truD k]) := by
  have em : Ex Hk (upd H1 l (.lst ([v1, v2] ++ [v3]))) := e.mut nl
  have h3' : RfV (upd H1 l (.lst ([v1, v2] ++ [v3]))) v3 (some k) := by
    obtain ⟨a, rfl, ha⟩ := h3
    exact ⟨a, rfl, by rw [upd_ne (nw a rfl)]; exact ha⟩
  exact .lst (sq_of upd_same) (.cons (rfv_dp (h1.ex em)) (.cons (rfv_dp (h2.ex em)) (.cons (rfv_dp h3') .nil)))
def Turn (a p c : Addr) (i : Nat) (σ : L2.St) (H : Hp) : Prop := (∃ t, Pur H p c t ∧ t ≤ 500 * i) ∧ ∃ y2 y3 y4 y5 y6 y7 y8 y9 y10 y11 y12 y13, σ = [some (.ref a), some (.ref p), y2, y3, y4, y5, y6, y7, y8, y9, y10, y11, y12, y13]
theorem law_ok (T : Txt mg) (c_purse : Cl P w K mg base 1 "_law_purse" (sp_purse K)) (c_draw : Cl P w K mg base 1 "_law_draw" sp_draw) (c_signature : Cl P w K mg base 3 "_law_signature" (sp_signature3 K)) (c_model : Cl P w K mg base 4 "_law_model" (sp_model K)) (c_order : Cl P w K mg base 3 "_law_order" sp_order)
    (c_pick : Cl P w K mg base 2 "_law_pick" (sp_pick K)) (c_no_model : Cl P w K mg base 3 "_law_no_model" (sp_no_model K)) (c_no_order : Cl P w K mg base 3 "_law_no_order" (sp_no_order K)) (c_refused : Cl P w K mg base 14 "_law_refused" (sp_refused K))
    (room : Room 15 callerA) (s : Shared) (H : Hp) (fa : Addr) (cdv : Value) (a : Addr) (ns : List Int) (len : ns.length ≤ 63) (seq : SqL K H a (ns.map V.int)) :
    ∃ t, PSs (cxOf CX0 P w K mg base ["_law_script", "_law_purse_here", "_law_time", "_law_signature_here", "_law_size", "_law_one", "_law_order_here", "_law_bad", "_law_strange", "_law_odd", "_law_gone", "_law_way_here", "_law_due_here", "_law_seen"] "law" (defScope s_law) fa cdv callerA [] s H E0).nox (defBody s_law) t ∧ t { nx := fun _ _ => False, rt := fun v _ => v = .bl true } (start ["_law_script", "_law_purse_here", "_law_time", "_law_signature_here", "_law_size", "_law_one", "_law_order_here", "_law_bad", "_law_strange", "_law_odd", "_law_gone", "_law_way_here", "_law_due_here", "_law_seen"] [.ref a]) H := by
  have hr : Room 14 (callerA.deeper (envOfC "law" (defScope s_law) s.heap.objs.size fa cdv)) := room.deeper _
  refine ⟨_, (pss_cons (ps_set (i := 1) sc_law.nd rfl (.inl rfl) (pe_cl c_purse hr (by first | decide | omega) (by rfl) (pa_cons (pv 0) pa_nil)))
      (pss_cons (ps_for PassesOwn.never (by rfl) (pi_range1 (by rfl) T.z_range (pa_cons pe_int pa_nil)) (pg_name (i := 2) sc_law.nd rfl (.inl rfl))
        (pss_cons (ps_set (i := 3) sc_law.nd rfl (.inl rfl) (pe_cl c_signature hr (by first | decide | omega) (by rfl) (pa_cons (pv 1) (pa_cons pe_int pa_nil))))
        (pss_cons (ps_set (i := 4) sc_law.nd rfl (.inl rfl) (pe_op op_add pe_int (pe_cl c_draw hr (by first | decide | omega) (by rfl) (pa_cons (pv 1) (pa_cons pe_int pa_nil)))))
        (pss_cons (ps_set (i := 5) sc_law.nd rfl (.inl rfl) (pe_cl c_model hr (by first | decide | omega) (by rfl) (pa_cons (pv 1) (pa_cons (pv 3) (pa_cons (pv 4) pa_nil)))))
        (pss_cons (ps_set (i := 6) sc_law.nd rfl (.inl rfl) (pe_cl c_order hr (by first | decide | omega) (by rfl) (pa_cons (pv 1) (pa_cons (pv 4) pa_nil))))
        (pss_cons (ps_set (i := 7) sc_law.nd rfl (.inl rfl) (pe_cl c_no_model hr (by first | decide | omega) (by rfl) (pa_cons (pv 1) (pa_cons (pv 5) pa_nil))))
        (pss_cons (ps_set (i := 8) sc_law.nd rfl (.inl rfl) (pe_cl c_no_order hr (by first | decide | omega) (by rfl) (pa_cons (pv 1) (pa_cons (pv 6) pa_nil))))
        (pss_cons (ps_set (i := 9) sc_law.nd rfl (.inl rfl) (pe_lst (pa_cons pe_non (pa_cons (pe_tup pa_nil) (pa_cons (pe_callTy call_list_of (by rfl) T.z_list (by decide +kernel) (pa_cons (pv 3) pa_nil)) (pa_cons (pe_op op_catA (pv 3) (pe_tup (pa_cons (pe_tup (pa_cons pe_str (pa_cons pe_int pa_nil))) pa_nil))) (pa_cons (pe_tup (pa_cons (pe_tup (pa_cons pe_str (pa_cons pe_int pa_nil))) pa_nil)) (pa_cons (pe_tup (pa_cons (pe_tup (pa_cons pe_str (pa_cons pe_int pa_nil))) pa_nil)) (pa_cons (pe_lst (pa_cons (pe_tup (pa_cons pe_str (pa_cons pe_int pa_nil))) pa_nil)) pa_nil)))))))))
        (pss_cons (ps_set (i := 10) sc_law.nd rfl (.inl rfl) (pe_cl c_pick hr (by first | decide | omega) (by rfl) (pa_cons (pv 1) (pa_cons (pv 9) pa_nil))))
        (pss_cut (ps_for PassesOwn.never (by rfl) (pi_range1 (by rfl) T.z_range (pa_cons pe_int pa_nil)) (pg_name (i := 11) sc_law.nd rfl (.inl rfl))
          (pss_cons (ps_if (pt_cmpR op_notN (pe_cl c_refused hr (by first | decide | omega) (by rfl) (pa_cons (pv 11) (pa_cons (pv 3) (pa_cons (pv 5) (pa_cons (pv 5) (pa_cons (pv 6) pa_nil)))))) pe_non (nomark _))
            (pss_one (ps_ret pe_bl))
            pss_nil)
          (pss_cons (ps_set (i := 12) sc_law.nd rfl (.inl rfl) (pe_lst (pa_cons (pe_lst (pa_cons pe_bl (pa_cons pe_bl (pa_cons pe_bl (pa_cons pe_bl pa_nil))))) (pa_cons (pe_lst (pa_cons pe_bl (pa_cons pe_bl (pa_cons pe_bl (pa_cons pe_bl pa_nil))))) (pa_cons (pe_lst (pa_cons pe_bl (pa_cons pe_bl (pa_cons pe_bl (pa_cons pe_bl pa_nil))))) pa_nil)))))
          (pss_cons (ps_set (i := 13) sc_law.nd rfl (.inl rfl) (pe_lst (pa_cons (pe_cl c_refused hr (by first | decide | omega) (by rfl) (pa_cons (pv 11) (pa_cons (pv 10) (pa_cons (pv 5) (pa_cons (pv 7) (pa_cons (pv 8) pa_nil)))))) (pa_cons (pe_cl c_refused hr (by first | decide | omega) (by rfl) (pa_cons (pv 11) (pa_cons (pv 10) (pa_cons (pv 7) (pa_cons (pv 7) (pa_cons (pv 8) pa_nil)))))) pa_nil))))
          (pss_cons (ps_expr (pe_bm PySem.F.plainAttrs_list PySem.F.slot_list_append PySem.F.type_list_append mt_append (pv 13) (pa_cons (pe_cl c_refused hr (by first | decide | omega) (by rfl) (pa_cons (pv 11) (pa_cons (pv 3) (pa_cons (pv 7) (pa_cons (pv 5) (pa_cons (pv 8) pa_nil)))))) pa_nil)))
          (pss_one (ps_if (PW.pt (pw_and (pt_cmpR op_lt (pv 11) pe_int (nomark _)) (pw_and1 (pt_cmpR (op_neD hr.units) (pv 13) (pv 12) (nomark _)))))
            (pss_one (ps_ret pe_bl))
            pss_nil)))))))
        (pss_cut (ps_for PassesOwn.never (by rfl) (pi_list (pe_lst (pa_cons pe_int (pa_cons pe_int pa_nil)))) (pg_name (i := 11) sc_law.nd rfl (.inl rfl))
          (pss_one (ps_if (pt_cmpR (op_neD hr.units) (pe_cl c_refused hr (by first | decide | omega) (by rfl) (pa_cons (pv 11) (pa_cons (pv 3) (pa_cons (pv 5) (pa_cons (pv 7) (pa_cons (pv 8) pa_nil)))))) (pe_lst (pa_cons pe_bl (pa_cons pe_bl (pa_cons pe_bl (pa_cons pe_bl pa_nil))))) (nomark _))
            (pss_one (ps_ret pe_bl))
            pss_nil)))
        (pss_cons (ps_set (i := 13) sc_law.nd rfl (.inl rfl) (pe_lst (pa_cons (pe_cl c_refused hr (by first | decide | omega) (by rfl) (pa_cons pe_int (pa_cons (pv 3) (pa_cons (pv 5) (pa_cons (pv 5) (pa_cons (pv 8) pa_nil)))))) (pa_cons (pe_cl c_refused hr (by first | decide | omega) (by rfl) (pa_cons pe_int (pa_cons (pv 3) (pa_cons (pv 5) (pa_cons (pv 6) (pa_cons (pv 8) pa_nil)))))) pa_nil))))
        (pss_cons (ps_expr (pe_bm PySem.F.plainAttrs_list PySem.F.slot_list_append PySem.F.type_list_append mt_append (pv 13) (pa_cons (pe_cl c_refused hr (by first | decide | omega) (by rfl) (pa_cons pe_int (pa_cons (pv 3) (pa_cons (pv 5) (pa_cons (pv 8) (pa_cons (pv 6) pa_nil)))))) pa_nil)))
        (pss_one (ps_if (pt_cmpR (op_neD hr.units) (pv 13) (pe_op op_rep (pe_lst (pa_cons (pe_lst (pa_cons pe_bl (pa_cons pe_bl (pa_cons pe_bl (pa_cons pe_bl pa_nil))))) pa_nil)) pe_int) (nomark _))
          (pss_one (ps_ret pe_bl))
          pss_nil)))))))))))))))
      (pss_one (ps_ret pe_bl)))), ?_⟩
  refine do_set (ea_cons (ev_var rfl) ea_nil H (Ex.refl H) _ fun H0 e0 => ⟨a, ns, rfl, ex_l e0 seq, len, fun p c H1 e1 np nc pu => ?_⟩)
  refine q_forR1 (n := ((3 : Nat) : Int)) (ea_cons ev_c ea_nil) ⟨by decide, by decide⟩ (Turn a p c) (fun H2 e2 => ⟨⟨0, pu.ex e2, Nat.zero_le _⟩, none, none, none, none, none, none, none, none, none, none, none, none, rfl⟩) (fun i σ H2 hi tn => ?_) (fun σ H2 tn => ?_)
  · obtain ⟨⟨t, pu2, lt⟩, y2, y3, y4, y5, y6, y7, y8, y9, y10, y11, y12, y13, hσ⟩ := tn
    subst hσ
    have i3 : i < 3 := by omega
    -- the signature
    refine do_set (ea_cons (ev_var rfl) (ea_cons (ev_c (v := vi 3)) ea_nil) H2 (Ex.refl H2) _ fun H3 e3 => ⟨p, c, t, rfl, pu2.ex e3, by omega, fun sv sg t4 H4 o4 pu4 l4 hG4 sok => ?_⟩)
    show tSeq _ _ _ [some (.ref a), some (.ref p), some (vi i), some sv, y4, y5, y6, y7, y8, y9, y10, y11, y12, y13] H4
    -- the size
    refine do_set (do_op (do_ev ev_c fun H5 e5 => do_draw (ev_var rfl) (ev_c (v := vi 4)) (pu4.ex e5) (by omega) (by decide) (by decide) fun k H6 hk o6 pu6 => ⟨1, (k : Int), rfl, rfl, ?_⟩))
    have en : V.int ((1 : Int) + (k : Int)) = vi (k + 1) := by
      show V.int _ = V.int (((k + 1 : Nat)) : Int)
      rw [Int.natCast_add, Int.add_comm]
      rfl
    show tSeq _ _ _ [some (.ref a), some (.ref p), some (vi i), some sv, some (V.int ((1 : Int) + (k : Int))), y5, y6, y7, y8, y9, y10, y11, y12, y13] H6
    rw [en]
    generalize hn : k + 1 = n
    have n1 : 1 ≤ n := by omega
    have n4 : n ≤ 4 := by omega
    have o46 : Off H4 H6 p c := (Off.of_ex e5).trans o6
    have hG6 : Sig K H6 sv sg := hG4.et (o46.et pu4)
    show tSeq _ _ _ [some (.ref a), some (.ref p), some (vi i), some sv, some (vi n), y5, y6, y7, y8, y9, y10, y11, y12, y13] H6
    -- the one
    refine do_set (ea_cons (ev_var rfl) (ea_cons (ev_var rfl) (ea_cons (ev_var rfl) ea_nil)) H6 (Ex.refl H6) _ fun H7 e7 => ⟨p, c, _, n, sv, sg, rfl, pu6.ex e7, by omega, n1, by omega, hG6.ex e7, sok, fun mv ts t8 H8 o8 pu8 l8 hM8 mok => ?_⟩)
    have hG8 : Sig K H8 sv sg := (hG6.ex e7).et (o8.et (pu6.ex e7))
    show tSeq _ _ _ [some (.ref a), some (.ref p), some (vi i), some sv, some (vi n), some mv, y6, y7, y8, y9, y10, y11, y12, y13] H8
    -- an order
    refine do_set (ea_cons (ev_var rfl) (ea_cons (ev_var rfl) ea_nil) H8 (Ex.refl _) _ fun H9 e9 => ⟨p, c, _, n, rfl, pu8.ex e9, by omega, by omega, fun ov o H10 o10 pu10 hO10 od => ?_⟩)
    have o810 : Off H8 H10 p c := (Off.of_ex e9).trans o10
    show tSeq _ _ _ [some (.ref a), some (.ref p), some (vi i), some sv, some (vi n), some mv, some ov, y7, y8, y9, y10, y11, y12, y13] H10
    have hM10 : Mdl K H10 mv n ts := hM8.et (o810.et pu8)
    -- what is no model
    refine do_set (ea_cons (ev_var rfl) (ea_cons (ev_var rfl) ea_nil) H10 (Ex.refl _) _ fun H11 e11 => ⟨p, c, _, mv, sg, n, ts, rfl, pu10.ex e11, by omega, hM10.ex e11, sok, mok, fun bv H12 o12 pu12 hB12 => ?_⟩)
    have o1012 : Off H10 H12 p c := (Off.of_ex e11).trans o12
    show tSeq _ _ _ [some (.ref a), some (.ref p), some (vi i), some sv, some (vi n), some mv, some ov, some bv, y8, y9, y10, y11, y12, y13] H12
    have hO12 : Nats K H12 ov o := (hO10.nats (K := K)).et (o1012.et pu10)
    -- what is no order
    refine do_set (ea_cons (ev_var rfl) (ea_cons (ev_var rfl) ea_nil) H12 (Ex.refl _) _ fun H13 e13 => ⟨p, c, _, ov, n, o, rfl, pu12.ex e13, by omega, hO12.ex e13, od, n1, by omega, fun xv H14 o14 pu14 hX14 => ?_⟩)
    have o1214 : Off H12 H14 p c := (Off.of_ex e13).trans o14
    show tSeq _ _ _ [some (.ref a), some (.ref p), some (vi i), some sv, some (vi n), some mv, some ov, some bv, some xv, y9, y10, y11, y12, y13] H14
    have hG14 : Sig K H14 sv sg := hG8.et (((o810.trans o1012).trans o1214).et pu8)
    have l1 := sok.l1
    have s4 := sok.l4
    have gsig := gba_sig (sg := sg) fun x hx => ⟨sok.nm x hx, sok.pl x hx⟩
    -- what is no signature
    have k1 : ∀ {σ : L2.St} {te : TE} {d : PyData}, EvP te σ H14 (fun v H' => Dz K p c H' v d) → GoneD d → EvP te σ H14 (DzP K p c GoneD) := fun h b => h.imp fun _ _ _ z => ⟨_, z, b⟩
    have one : ∀ {σ : L2.St} {z : Str} {i : Nat}, ((∀ c ∈ z.cps.toList, c < 0x110000) ∧ z.cps.size ≤ 22) → i ≤ 3 → deedB (.tuple [.str z, .int (i : Int)]) = false → EvP (tTup (tCons (tTup (tCons (tC (.str z)) (tCons (tC (.int (i : Int))) tNil))) tNil)) σ H14 (DzP K p c GoneD) := fun {σ z i} h hi b => k1 (dz_tup (eds_cons dz_deed eds_nil) (by show 1 ≤ 100000; decide)) ⟨(gb_tup (gba_one (gb_pair (z := z) (i := i) h hi))).mono (by decide) (by decide), sig_odd (k := 0) (by show 0 < 1; decide) b⟩
    refine q_asgP (P := LsR (DzP K p c GoneD) p c 7) (ep_lstR (n := 7) DzP.st (eas_cons DzP.st (k1 (dz_non ev_c) ⟨gb_none.mono (by decide) (by decide), fun z => by cases z⟩)
      (eas_cons DzP.st (k1 (dz_tup eds_nil (by show 0 ≤ 100000; decide)) ⟨(gb_tup gba_nil).mono (by decide) (by decide), sig_len (by decide)⟩)
      (eas_cons DzP.st (k1 (dz_list (ev_var rfl) (sig_td hG14) pu14) ⟨(gb_lst gsig).mono (by decide) (by omega), fun z => by cases z⟩)
      (eas_cons DzP.st (k1 (td_dz (td_cat (td_ev (ev_var rfl) (sig_td hG14)) (td_tup (eds_cons (dz_deed (z := "u") (i := 2)) eds_nil) (by show 1 ≤ 100000; decide)) (by rw [List.length_map]; show _ + 1 ≤ _; omega))) ⟨(gb_tup (gba_app gsig (gba_one (gb_pair (z := "u") (i := 2) (by decide +kernel) (by decide))))).mono (by decide) (by omega), sig_odd (k := sg.length) (by rw [List.length_append, List.length_map]; exact Nat.lt_succ_self _) (by
        rw [List.getD_eq_getElem?_getD, List.getElem?_append_right (by rw [List.length_map]; exact Nat.le_refl _), List.length_map, Nat.sub_self]
        exact odd_u)⟩)
      (eas_cons DzP.st (one (z := "m") (i := 3) (by decide +kernel) (by decide) odd_m3)
      (eas_cons DzP.st (one (z := "M") (i := 1) (by decide +kernel) (by decide) odd_M)
      (eas_cons DzP.st (k1 (dz_lst (eds_cons (dz_deed (z := "m") (i := 1)) eds_nil) (by show 1 ≤ 100000; decide) pu14) ⟨(gb_lst (gba_one (gb_pair (z := "m") (i := 1) (by decide +kernel) (by decide)))).mono (by decide) (by decide), fun z => by cases z⟩) eas_nil))))))) (by decide) pu14) fun lv H15 e15 hl => ?_
    have pu15 := pu14.ex e15
    show tSeq _ _ _ [some (.ref a), some (.ref p), some (vi i), some sv, some (vi n), some mv, some ov, some bv, some xv, some lv, y10, y11, y12, y13] H15
    refine do_set (do_pickR (K := K) (n := 7) (ev_var rfl) pu15 (by omega) (ep_ev (ev_var rfl) fun _ e => LsR.ex DzP.st e hl) (by decide) (by decide) (fun _ _ _ p o z => z.off p o) fun gv H16 o16 pu16 hW16 => ?_)
    have o1416 : Off H14 H16 p c := (Off.of_ex e15).trans o16
    have o1016 : Off H10 H16 p c := (o1012.trans o1214).trans o1416
    have sc : Scn K p c sg n ts o sv mv ov bv xv gv H16 := ⟨hG14.et (o1416.et pu14), hM10.et (o1016.et pu10), (hO10.nats (K := K)).et (o1016.et pu10), hB12.off pu12 (o1214.trans o1416), hX14.off pu14 o1416, hW16, sok, mok, od, n4⟩
    clear hG4 hG6 hG8 hG14 hM8 hM10 hO10 hO12 hB12 hX14 hW16 hl gsig
    show tCut _ _ _ [some (.ref a), some (.ref p), some (vi i), some sv, some (vi n), some mv, some ov, some bv, some xv, some lv, some gv, y11, y12, y13] H16
    have st : ∀ y11 y12 y13 : Option V, ∃ σ0 : L2.St, σ0 = [some (.ref a), some (.ref p), some (vi i), some sv, some (vi n), some mv, some ov, some bv, some xv, some lv, some gv, y11, y12, y13] := fun _ _ _ => ⟨_, rfl⟩
    -- the eight ways
    refine q_cut (M := fun σ H' => Ex H16 H' ∧ ∃ y11 y12 y13, σ = [some (.ref a), some (.ref p), some (vi i), some sv, some (vi n), some mv, some ov, some bv, some xv, some lv, some gv, y11, y12, y13]) ?_ (fun σ H17 hM => ?_)
    · refine s_forR1 (n := ((8 : Nat) : Int)) (ea_cons ev_c ea_nil) ⟨by decide, by decide⟩ (fun _ σ H' => Ex H16 H' ∧ ∃ y11 y12 y13, σ = [some (.ref a), some (.ref p), some (vi i), some sv, some (vi n), some mv, some ov, some bv, some xv, some lv, some gv, y11, y12, y13]) (fun H17 e17 => ⟨e17, _, _, _, rfl⟩) (fun k σ H17 hk hP => ?_) (fun σ H17 hP => hP)
      obtain ⟨e17, y11, y12, y13, hσ⟩ := hP
      subst hσ
      have k8 : k < 8 := by omega
      show tSeq _ _ _ [some (.ref a), some (.ref p), some (vi i), some sv, some (vi n), some mv, some ov, some bv, some xv, some lv, some gv, some (vi k), y12, y13] H17
      refine q_when (b := false) (et_refG (ea_cons (ev_var rfl) (ea_cons (ev_var rfl) (ea_cons (ev_var rfl) (ea_cons (ev_var rfl) (ea_cons (ev_var rfl) ea_nil))))) ((sc.good k8).ex e17)) (fun hb => by cases hb) (fun _ H18 e18 => ?_)
      refine q_asgP (P := fun v H' => Dp K H' v (.list [truD 0, truD 0, truD 1])) (ep_three ep_bools ep_bools ep_bools) fun dv H19 e19 hd => ?_
      have sc19 := sc.ex ((e17.trans e18).trans e19)
      obtain ⟨r1, i1, p1⟩ := sc19.c1 k
      obtain ⟨r2, i2, p2⟩ := sc19.c2 k
      show tSeq _ _ _ [some (.ref a), some (.ref p), some (vi i), some sv, some (vi n), some mv, some ov, some bv, some xv, some lv, some gv, some (vi k), some dv, y13] H19
      refine q_asgP (P := TwoR H19 r1 r2) (ep_two (ea_cons (ev_var rfl) (ea_cons (ev_var rfl) (ea_cons (ev_var rfl) (ea_cons (ev_var rfl) (ea_cons (ev_var rfl) ea_nil))))) (p1 k8) (ea_cons (ev_var rfl) (ea_cons (ev_var rfl) (ea_cons (ev_var rfl) (ea_cons (ev_var rfl) (ea_cons (ev_var rfl) ea_nil))))) (p2 k8)) fun lv2 H20 e20 h2 => ?_
      obtain ⟨l, v1, v2, Hk, rfl, eK, nl, eK2, hL, g1, g2⟩ := h2
      obtain ⟨r3, i3', p3⟩ := (sc19.ex e20).c3 k
      show tSeq _ _ _ [some (.ref a), some (.ref p), some (vi i), some sv, some (vi n), some mv, some ov, some bv, some xv, some lv, some gv, some (vi k), some dv, some (.ref l)] H20
      refine q_appP' (K := K) hL (ev_var rfl) (ep_refd (ea_cons (ev_var rfl) (ea_cons (ev_var rfl) (ea_cons (ev_var rfl) (ea_cons (ev_var rfl) (ea_cons (ev_var rfl) ea_nil))))) (p3 k8)) (by show 2 < 100000; decide) fun v3 H21 e21 ⟨g3, nw⟩ => ?_
      have em : Ex Hk (upd H21 l (.lst ([v1, v2] ++ [v3]))) := (eK2.trans e21).mut nl
      have e1622 : Ex H16 (upd H21 l (.lst ([v1, v2] ++ [v3]))) := (((e17.trans e18).trans e19).trans eK).trans em
      have hd22 := dpEx (eK.trans em) hd
      have neq : k < 7 → Dp K (upd H21 l (.lst ([v1, v2] ++ [v3]))) (.ref l) (.list [truD 0, truD 0, truD 1]) := fun k7 => by
        rw [i1 k7] at g1
        rw [i2 k7] at g2
        rw [i3' k7] at g3
        exact three_dp (H2 := H21) nl (eK2.trans e21) g1 g2 g3 (fun d z => fun y => by
          have := nw d z
          rw [y, hL] at this
          cases this)
      generalize upd H21 l (.lst ([v1, v2] ++ [v3])) = H22 at *
      refine s_when (b := decide (k < 7) && false) (et_and (a := decide (k < 7)) (b := false) (et_test (ev_is (ev_op (ev_var rfl) ev_c rv_I0) (by
        show V.bl (decide (((k : Nat) : Int) < 7)) = _
        congr 1
        exact decide_eq_decide.mpr ⟨fun z => by omega, fun z => by omega⟩))) (fun hb => et_val (ev_neSame (K := K) (P := fun v H' => Dp K H' v (.list [truD 0, truD 0, truD 1])) (R := fun v H' => Dp K H' v (.list [truD 0, truD 0, truD 1])) (ep_ev (ev_var rfl) fun _ e => dpEx e (neq (of_decide_eq_true hb))) (ep_ev (ev_var rfl) fun _ e => dpEx e hd22) (fun _ _ _ e z => dpEx e z) (fun _ _ z => z) (fun _ _ z => z) (gd_three 0 0 1) (by decide)))) (fun hb => by rw [Bool.and_false] at hb; cases hb) (fun _ H23 e23 => ⟨e1622.trans e23, _, _, _, rfl⟩)
    obtain ⟨e17, z11, z12, z13, hσ⟩ := hM
    subst hσ
    show tCut _ _ _ [some (.ref a), some (.ref p), some (vi i), some sv, some (vi n), some mv, some ov, some bv, some xv, some lv, some gv, z11, z12, z13] H17
    -- the two ways of the other
    refine q_cut (M := fun σ H' => Ex H16 H' ∧ ∃ y11 y12 y13, σ = [some (.ref a), some (.ref p), some (vi i), some sv, some (vi n), some mv, some ov, some bv, some xv, some lv, some gv, y11, y12, y13]) ?_ (fun σ H18 hM => ?_)
    · refine s_forLs (K := K) (el_lst (vs := [vi 5, vi 6]) (ea_cons ev_c (ea_cons ev_c ea_nil)) (by show 2 ≤ 100000; decide) H17 (Ex.refl _) _ fun l H18 nl e18 hl => ⟨l, rfl, ⟨_, sq_of hl⟩, for_list (K := K) (xs := [vi 5, vi 6]) (fun _ σ H' => Ex H18 H' ∧ ∃ y11 y12 y13, σ = [some (.ref a), some (.ref p), some (vi i), some sv, some (vi n), some mv, some ov, some bv, some xv, some lv, some gv, y11, y12, y13]) ⟨Ex.refl _, _, _, _, rfl⟩ (fun i σ' H' _ h => sq_of (h.1 _ _ hl)) (fun j x σ' H19 hx hP => ?_) (fun σ' H19 hP => ⟨(e17.trans e18).trans hP.1, hP.2⟩)⟩)
      obtain ⟨e19, y11, y12, y13, hσ⟩ := hP
      subst hσ
      obtain ⟨k, hk, ex⟩ : ∃ k : Nat, (k = 5 ∨ k = 6) ∧ x = vi k := by
        have m := List.mem_of_getElem? hx
        rcases List.mem_cons.mp m with z | m
        · exact ⟨5, .inl rfl, z⟩
        · exact ⟨6, .inr rfl, List.mem_singleton.mp m⟩
      subst ex
      show tIfS _ _ _ _ [some (.ref a), some (.ref p), some (vi i), some sv, some (vi n), some mv, some ov, some bv, some xv, some lv, some gv, some (vi k), y12, y13] H19
      refine s_when (b := false) (et_val (ev_neSame (K := K) (P := fun v H' => Dp K H' v (truD 1)) (R := fun v H' => Dp K H' v (truD 1)) ((ep_refd (ea_cons (ev_var rfl) (ea_cons (ev_var rfl) (ea_cons (ev_var rfl) (ea_cons (ev_var rfl) (ea_cons (ev_var rfl) ea_nil))))) ((sc.ex ((e17.trans e18).trans e19)).c56 hk)).imp fun _ _ _ z => rfv_dp z.1) ep_bools (fun _ _ _ e z => dpEx e z) (fun _ _ z => z) (fun _ _ z => z) (gd_truD 1) (by decide))) (fun hb => by cases hb) (fun _ H20 e20 => ⟨e19.trans e20, _, _, _, rfl⟩)
    obtain ⟨e18, z11, z12, z13, hσ⟩ := hM
    subst hσ
    have sc18 := sc.ex e18
    show tSeq _ _ _ [some (.ref a), some (.ref p), some (vi i), some sv, some (vi n), some mv, some ov, some bv, some xv, some lv, some gv, z11, z12, z13] H18
    refine q_asgP (P := TwoR H18 (some 2) (some 2)) (ep_two (vs1 := [vi 0, sv, mv, mv, xv]) (vs2 := [vi 8, sv, mv, ov, xv]) (ea_cons ev_c (ea_cons (ev_var rfl) (ea_cons (ev_var rfl) (ea_cons (ev_var rfl) (ea_cons (ev_var rfl) ea_nil))))) sc18.l0 (ea_cons ev_c (ea_cons (ev_var rfl) (ea_cons (ev_var rfl) (ea_cons (ev_var rfl) (ea_cons (ev_var rfl) ea_nil))))) sc18.l1) fun lv2 H20 e20 h2 => ?_
    obtain ⟨l, v1, v2, Hk, rfl, eK, nl, eK2, hL, g1, g2⟩ := h2
    show tSeq _ _ _ [some (.ref a), some (.ref p), some (vi i), some sv, some (vi n), some mv, some ov, some bv, some xv, some lv, some gv, z11, z12, some (.ref l)] H20
    refine q_appP' (K := K) hL (ev_var rfl) (ep_refd (r := some 2) (vs := [vi 8, sv, mv, xv, ov]) (ea_cons ev_c (ea_cons (ev_var rfl) (ea_cons (ev_var rfl) (ea_cons (ev_var rfl) (ea_cons (ev_var rfl) ea_nil))))) (sc18.ex e20).l2) (by show 2 < 100000; decide) fun v3 H21 e21 ⟨g3, nw⟩ => ?_
    have em : Ex Hk (upd H21 l (.lst ([v1, v2] ++ [v3]))) := (eK2.trans e21).mut nl
    have e1622 : Ex H16 (upd H21 l (.lst ([v1, v2] ++ [v3]))) := (e18.trans eK).trans em
    have neq : Dp K (upd H21 l (.lst ([v1, v2] ++ [v3]))) (.ref l) (.list [truD 2, truD 2, truD 2]) := three_dp (H2 := H21) nl (eK2.trans e21) g1 g2 g3 (fun d z => fun y => by
      have := nw d z
      rw [y, hL] at this
      cases this)
    generalize upd H21 l (.lst ([v1, v2] ++ [v3])) = H22 at *
    refine s_when (b := false) (et_val (ev_neSame (K := K) (P := fun v H' => Dp K H' v (.list [truD 2, truD 2, truD 2])) (R := fun v H' => Dp K H' v (.list [truD 2, truD 2, truD 2])) (ep_ev (ev_var rfl) fun _ e => dpEx e neq) (ep_rep3 ep_bools) (fun _ _ _ e z => dpEx e z) (fun _ _ z => z) (fun _ _ z => z) (gd_three 2 2 2) (by decide))) (fun hb => by cases hb) (fun _ H23 e23 => ⟨⟨_, (pu16.ex e1622).ex e23, by omega⟩, _, _, _, _, _, _, _, _, _, _, _, _, rfl⟩)
  · obtain ⟨_, y2, y3, y4, y5, y6, y7, y8, y9, y10, y11, y12, y13, hσ⟩ := tn
    subst hσ
    exact do_ret (do_ev ev_c fun _ _ => rfl)
end
end K24
end
section
namespace K24
open PySem PySem.Spec PyProof.Rows L2 Evl RZ Dw M20
section
variable {K : PySem.W.Frag} {h : Heap} {mg : Str → Option Value}
/-- a def by what the top has written -/
structure Wr (K : PySem.W.Frag) (x : Str) (st : Stmt) (f : Addr) : Prop where
  ex : ∃ (fd : FuncData), Fun K x x st f fd
  at_ : PySem.W.nsIn K mainGlobals x = some (some (.ref f))
theorem wr_mk {x : Str} {st : Stmt} {f : Addr} {od an : Option Addr} {sl : Array (Option Value)} {oc kV dc pm cd ct : Value} (a1 : PySem.W.nsIn K mainGlobals x = some (some (.ref f)))
    (l1 : K.lookup f = some ⟨oc, od, .func (PySem.W.fnOf x x (defArgs st) (defBody st) (defScope st) .none kV dc pm an cd ct), sl⟩) (c1 : PySem.W.codeIn K cd x = true) (k1 : PySem.W.keepIn K (.ref f) = true) : Wr K x st f := ⟨⟨_, fun_mk l1 c1 k1⟩, a1⟩
theorem Wr.df {x : Str} {st : Stmt} {f : Addr} {ps : List Str} (W : Wr K x st f) (X : K.In h) (G : h.Ns mainGlobals mg) (b : ∀ fd, Fun K x x st f fd → Binds K fd ps []) : Df K mg x st ps := by
  obtain ⟨fd, F⟩ := W.ex
  exact ⟨f, fd, F, PySem.W.mg_of X G W.at_, b fd F⟩
end
/-- the errors' classes by number -/
def CK (e0 e1 e2 : Addr) : Nat → Addr
  | 0 => e0
  | 1 => e1
  | _ => e2
theorem all_mk {P : Program} {w : World} {K : PySem.W.Frag} {h : Heap} {mg : Str → Option Value} {fa : Addr} (X : K.In h) (G : h.Ns mainGlobals mg) (hfa : mg "law" = some (.ref fa)) (room : Room 15 callerA)
    {fl : Addr} {f0 : Addr} {f1 : Addr} {f2 : Addr} {f3 : Addr} {f4 : Addr} {f5 : Addr} {f6 : Addr} {f7 : Addr} {f8 : Addr} {f9 : Addr} {f10 : Addr} {f11 : Addr} {f12 : Addr} {f13 : Addr} {f14 : Addr} {f15 : Addr} {f16 : Addr} {f17 : Addr} {f18 : Addr} {f19 : Addr} {f20 : Addr} {f21 : Addr} {f22 : Addr} {f23 : Addr} {f24 : Addr} {f25 : Addr} {f26 : Addr} {f27 : Addr} {f28 : Addr} {f29 : Addr} {f30 : Addr} {f31 : Addr} {f32 : Addr} {f33 : Addr} {f34 : Addr} {f35 : Addr} {f36 : Addr} {f37 : Addr} {f38 : Addr} {f39 : Addr} {f40 : Addr} {f41 : Addr} {f42 : Addr} {f43 : Addr} {f44 : Addr} {f45 : Addr} {f46 : Addr} {f47 : Addr} {f48 : Addr} {f49 : Addr} {f50 : Addr} {f51 : Addr} {f52 : Addr} {f53 : Addr} {G0 e0 e1 e2 : Addr}
    {t_NAME_LETTERS : Tok} {t_MOST_NAME : Tok} {t_MOST_DEEDS : Tok} {t_MOST_PLACES : Tok} {t_MOST_SIZE : Tok}
    (w0 : Wr K "is_whole" s_is_whole f0)
    (w1 : Wr K "is_below" s_is_below f1)
    (w2 : Wr K "power" s_power f2)
    (w3 : Wr K "is_name" s_is_name f3)
    (w4 : Wr K "is_deed" s_is_deed f4)
    (w5 : Wr K "signature_wrong" s_signature_wrong f5)
    (w6 : Wr K "need_signature" s_need_signature f6)
    (w7 : Wr K "is_size" s_is_size f7)
    (w8 : Wr K "first_odd_cell" s_first_odd_cell f8)
    (w9 : Wr K "model_wrong" s_model_wrong f9)
    (w10 : Wr K "need_model" s_need_model f10)
    (w11 : Wr K "are_unlike_below" s_are_unlike_below f11)
    (w12 : Wr K "is_order" s_is_order f12)
    (w13 : Wr K "turned_back" s_turned_back f13)
    (w14 : Wr K "renamed_table" s_renamed_table f14)
    (w15 : Wr K "renamed_tables" s_renamed_tables f15)
    (w16 : Wr K "renamed" s_renamed f16)
    (w17 : Wr K "composed" s_composed f17)
    (w18 : Wr K "renamed_by" s_renamed_by f18)
    (w19 : Wr K "_law_purse" s_purse f19)
    (w20 : Wr K "_law_draw" s_draw f20)
    (w21 : Wr K "_law_mixed" s_mixed f21)
    (w22 : Wr K "_law_order" s_ordr f22)
    (w23 : Wr K "_law_table" s_tbl f23)
    (w24 : Wr K "_law_model" s_mdl f24)
    (w25 : Wr K "rows_below" s_rows_below f25)
    (w26 : Wr K "is_same_for_all" s_is_same_for_all f26)
    (w27 : Wr K "with_called" s_with_called f27)
    (w28 : Wr K "all_called" s_all_called f28)
    (w29 : Wr K "least_worth" s_least_worth f29)
    (w30 : Wr K "least_begins" s_least_begins f30)
    (w31 : Wr K "orders_to_least" s_orders_to_least f31)
    (w32 : Wr K "renamings_many" s_renamings_many f32)
    (w33 : Wr K "own_orders_of" s_own_orders_of f33)
    (w34 : Wr K "own_orders" s_own_orders f34)
    (w35 : Wr K "renamings" s_renamings f35)
    (w36 : Wr K "orbits" s_orbits f36)
    (w37 : Wr K "table_of" s_table_of f37)
    (w38 : Wr K "need_two_models" s_need_two_models f38)
    (w39 : Wr K "place_of_row" s_place_of_row f39)
    (w40 : Wr K "clashes" s_clashes f40)
    (w41 : Wr K "first_clash" s_first_clash f41)
    (w42 : Wr K "led_from" s_led_from f42)
    (w43 : Wr K "likeness" s_likeness f43)
    (w44 : Wr K "least_form" s_least_form f44)
    (w45 : Wr K "likeness_judged" s_likeness_judged f45)
    (w46 : Wr K "has_paper_form" s_has_paper_form f46)
    (w47 : Wr K "least_tables" s_least_tables f47)
    (w48 : Wr K "_law_call_of" s__law_call_of f48)
    (w49 : Wr K "_law_refused" s__law_refused f49)
    (w50 : Wr K "_law_signature" s_sgn f50)
    (w51 : Wr K "_law_pick" s__law_pick f51)
    (w52 : Wr K "_law_no_model" s__law_no_model f52)
    (w53 : Wr K "_law_no_order" s__law_no_order f53)
    (wl : Wr K "law" s_law fl)
    (x6 : PySem.W.specialIn K (.builtin "object.__class__") "__get__" = some (some (.builtin "getset_descriptor.__get__")))
    (x7 : PySem.W.takesIn K (.builtin "object.__class__") = some true)
    (xg : PySem.W.nsIn K mainGlobals "DeedError" = some (some (.ref G0)))
    (y1 : PySem.W.subIn K (.ref G0) (.type "BaseException") = some true)
    (y2 : PySem.W.hasDictIn K G0 = true)
    (y3 : PySem.W.typeIn K (.ref G0) = some (.type "type"))
    (xa0 : PySem.W.nsIn K mainGlobals "NoSignature" = some (some (.ref e0)))
    (xa1 : PySem.W.nsIn K mainGlobals "NoModel" = some (some (.ref e1)))
    (xa2 : PySem.W.nsIn K mainGlobals "NoOrder" = some (some (.ref e2)))
    (xk0 : PySem.W.keepIn K (.ref e0) = true)
    (xq0 : PySem.W.excIn K e0 [.type "ValueError", .type "Exception", .type "BaseException", .type "object"] "ValueError.__new__" = true)
    (xt0 : PySem.W.typeIn K (.ref e0) = some (.type "type"))
    (x1_0 : PySem.W.findIn K (.ref e0) "__getattribute__" = some (some (.builtin "BaseException.__getattribute__")))
    (x2_0 : PySem.W.findIn K (.ref e0) "__getattr__" = some none)
    (x3_0 : PySem.W.subIn K (.ref e0) (.type "BaseException") = some true)
    (x4_0 : PySem.W.hasDictIn K e0 = true)
    (x5_0 : PySem.W.findIn K (.ref e0) "__class__" = some (some (.builtin "object.__class__")))
    (x8_0 : PySem.W.mroIn K e0 (.type "object") = some true)
    (y4_0 : PySem.W.subIn K (.ref e0) (.ref G0) = some true)
    (v_0 : PySem.W.kitOne K (.ref e0) (.type "ValueError") = some true)
    (o0_0 : PySem.W.kitOne K (.ref e0) (.ref e0) = some true)
    (o0_1 : PySem.W.kitOne K (.ref e0) (.ref e1) = some false)
    (o0_2 : PySem.W.kitOne K (.ref e0) (.ref e2) = some false)
    (xk1 : PySem.W.keepIn K (.ref e1) = true)
    (xq1 : PySem.W.excIn K e1 [.type "ValueError", .type "Exception", .type "BaseException", .type "object"] "ValueError.__new__" = true)
    (xt1 : PySem.W.typeIn K (.ref e1) = some (.type "type"))
    (x1_1 : PySem.W.findIn K (.ref e1) "__getattribute__" = some (some (.builtin "BaseException.__getattribute__")))
    (x2_1 : PySem.W.findIn K (.ref e1) "__getattr__" = some none)
    (x3_1 : PySem.W.subIn K (.ref e1) (.type "BaseException") = some true)
    (x4_1 : PySem.W.hasDictIn K e1 = true)
    (x5_1 : PySem.W.findIn K (.ref e1) "__class__" = some (some (.builtin "object.__class__")))
    (x8_1 : PySem.W.mroIn K e1 (.type "object") = some true)
    (y4_1 : PySem.W.subIn K (.ref e1) (.ref G0) = some true)
    (v_1 : PySem.W.kitOne K (.ref e1) (.type "ValueError") = some true)
    (o1_0 : PySem.W.kitOne K (.ref e1) (.ref e0) = some false)
    (o1_1 : PySem.W.kitOne K (.ref e1) (.ref e1) = some true)
    (o1_2 : PySem.W.kitOne K (.ref e1) (.ref e2) = some false)
    (xk2 : PySem.W.keepIn K (.ref e2) = true)
    (xq2 : PySem.W.excIn K e2 [.type "ValueError", .type "Exception", .type "BaseException", .type "object"] "ValueError.__new__" = true)
    (xt2 : PySem.W.typeIn K (.ref e2) = some (.type "type"))
    (x1_2 : PySem.W.findIn K (.ref e2) "__getattribute__" = some (some (.builtin "BaseException.__getattribute__")))
    (x2_2 : PySem.W.findIn K (.ref e2) "__getattr__" = some none)
    (x3_2 : PySem.W.subIn K (.ref e2) (.type "BaseException") = some true)
    (x4_2 : PySem.W.hasDictIn K e2 = true)
    (x5_2 : PySem.W.findIn K (.ref e2) "__class__" = some (some (.builtin "object.__class__")))
    (x8_2 : PySem.W.mroIn K e2 (.type "object") = some true)
    (y4_2 : PySem.W.subIn K (.ref e2) (.ref G0) = some true)
    (v_2 : PySem.W.kitOne K (.ref e2) (.type "ValueError") = some true)
    (o2_0 : PySem.W.kitOne K (.ref e2) (.ref e0) = some false)
    (o2_1 : PySem.W.kitOne K (.ref e2) (.ref e1) = some false)
    (o2_2 : PySem.W.kitOne K (.ref e2) (.ref e2) = some true)
    (z_ValueError : PySem.W.nsIn K mainGlobals "ValueError" = some none)
    (z_abs : PySem.W.nsIn K mainGlobals "abs" = some none)
    (z_all : PySem.W.nsIn K mainGlobals "all" = some none)
    (z_bool : PySem.W.nsIn K mainGlobals "bool" = some none)
    (z_enumerate : PySem.W.nsIn K mainGlobals "enumerate" = some none)
    (z_int : PySem.W.nsIn K mainGlobals "int" = some none)
    (z_isinstance : PySem.W.nsIn K mainGlobals "isinstance" = some none)
    (z_len : PySem.W.nsIn K mainGlobals "len" = some none)
    (z_list : PySem.W.nsIn K mainGlobals "list" = some none)
    (z_max : PySem.W.nsIn K mainGlobals "max" = some none)
    (z_min : PySem.W.nsIn K mainGlobals "min" = some none)
    (z_range : PySem.W.nsIn K mainGlobals "range" = some none)
    (z_reversed : PySem.W.nsIn K mainGlobals "reversed" = some none)
    (z_set : PySem.W.nsIn K mainGlobals "set" = some none)
    (z_sorted : PySem.W.nsIn K mainGlobals "sorted" = some none)
    (z_str : PySem.W.nsIn K mainGlobals "str" = some none)
    (z_tuple : PySem.W.nsIn K mainGlobals "tuple" = some none)
    (z_zip : PySem.W.nsIn K mainGlobals "zip" = some none)
    (z_repr : PySem.W.nsIn K mainGlobals "repr" = some none)
    (k_NAME_LETTERS : PySem.W.nsIn K mainGlobals "NAME_LETTERS" = some (some (.str "abcdefghijklmnopqrst" t_NAME_LETTERS)))
    (k_MOST_NAME : PySem.W.nsIn K mainGlobals "MOST_NAME" = some (some (.int 4 t_MOST_NAME)))
    (k_MOST_DEEDS : PySem.W.nsIn K mainGlobals "MOST_DEEDS" = some (some (.int 4 t_MOST_DEEDS)))
    (k_MOST_PLACES : PySem.W.nsIn K mainGlobals "MOST_PLACES" = some (some (.int 2 t_MOST_PLACES)))
    (k_MOST_SIZE : PySem.W.nsIn K mainGlobals "MOST_SIZE" = some (some (.int 6 t_MOST_SIZE))) :
    ∃ (fd : FuncData) (st : Stmt) (N : List Str), Fun K "law" "law" st fa fd ∧ FnScope N ["_law_script"] (defScope st) ∧ (∀ (s : Shared) (u : Value), BindsTo s fd ⟨[u], []⟩ [("_law_script", u)]) ∧
      ∀ (base : Heap) (s : Shared) (H : Hp) (cdv : Value) (a : Addr) (ns : List Int), K.In base → base.Ns mainGlobals mg → ns.length ≤ 63 → SqL K H a (ns.map V.int) →
        ∃ t, PSs (cxOf CX0 P w K mg base N "law" (defScope st) fa cdv callerA [] s H E0).nox (defBody st) t ∧ t { nx := fun _ _ => False, rt := fun v _ => v = .bl true } (L2.start N [.ref a]) H := by
  have e := hfa.symm.trans (PySem.W.mg_of X G wl.at_)
  cases e
  have T : Txt mg := {
    z_ValueError := PySem.W.mg_none_of X G z_ValueError
    z_abs := PySem.W.mg_none_of X G z_abs
    z_all := PySem.W.mg_none_of X G z_all
    z_bool := PySem.W.mg_none_of X G z_bool
    z_enumerate := PySem.W.mg_none_of X G z_enumerate
    z_int := PySem.W.mg_none_of X G z_int
    z_isinstance := PySem.W.mg_none_of X G z_isinstance
    z_len := PySem.W.mg_none_of X G z_len
    z_list := PySem.W.mg_none_of X G z_list
    z_max := PySem.W.mg_none_of X G z_max
    z_min := PySem.W.mg_none_of X G z_min
    z_range := PySem.W.mg_none_of X G z_range
    z_reversed := PySem.W.mg_none_of X G z_reversed
    z_set := PySem.W.mg_none_of X G z_set
    z_sorted := PySem.W.mg_none_of X G z_sorted
    z_str := PySem.W.mg_none_of X G z_str
    z_tuple := PySem.W.mg_none_of X G z_tuple
    z_zip := PySem.W.mg_none_of X G z_zip
    z_repr := PySem.W.mg_none_of X G z_repr
    c_NAME_LETTERS := ⟨_, PySem.W.mg_of X G k_NAME_LETTERS⟩
    c_MOST_NAME := ⟨_, PySem.W.mg_of X G k_MOST_NAME⟩
    c_MOST_DEEDS := ⟨_, PySem.W.mg_of X G k_MOST_DEEDS⟩
    c_MOST_PLACES := ⟨_, PySem.W.mg_of X G k_MOST_PLACES⟩
    c_MOST_SIZE := ⟨_, PySem.W.mg_of X G k_MOST_SIZE⟩ }
  have xt_0 : ExcT K mg "NoSignature" e0 := ⟨PySem.W.mg_of X G xa0, xk0, xq0, xt0, ⟨x1_0, x2_0, x3_0, x4_0, x5_0, x6, x7, x8_0⟩⟩
  have xm_0 := PySem.W.exm_ref y1 y2 y3 y4_0
  have xt_1 : ExcT K mg "NoModel" e1 := ⟨PySem.W.mg_of X G xa1, xk1, xq1, xt1, ⟨x1_1, x2_1, x3_1, x4_1, x5_1, x6, x7, x8_1⟩⟩
  have xm_1 := PySem.W.exm_ref y1 y2 y3 y4_1
  have xt_2 : ExcT K mg "NoOrder" e2 := ⟨PySem.W.mg_of X G xa2, xk2, xq2, xt2, ⟨x1_2, x2_2, x3_2, x4_2, x5_2, x6, x7, x8_2⟩⟩
  have xm_2 := PySem.W.exm_ref y1 y2 y3 y4_2
  have xg0 := PySem.W.mg_of X G xg
  have erK : ErO K mg (CK e0 e1 e2) G0 := {
    g := xg0
    s0 := xt_0
    s1 := xt_1
    s2 := xt_2
    kit := fun i j hi hj => by
      have h1 : i = 0 ∨ i = 1 ∨ i = 2 := by omega
      have h2 : j = 0 ∨ j = 1 ∨ j = 2 := by omega
      rcases h1 with rfl | rfl | rfl
      · rcases h2 with rfl | rfl | rfl
        · exact o0_0
        · exact o0_1
        · exact o0_2
      · rcases h2 with rfl | rfl | rfl
        · exact o1_0
        · exact o1_1
        · exact o1_2
      · rcases h2 with rfl | rfl | rfl
        · exact o2_0
        · exact o2_1
        · exact o2_2
    val := fun i hi => by
      have h1 : i = 0 ∨ i = 1 ∨ i = 2 := by omega
      rcases h1 with rfl | rfl | rfl
      · exact v_0
      · exact v_1
      · exact v_2
    xc := fun i hi => by
      have h1 : i = 0 ∨ i = 1 ∨ i = 2 := by omega
      rcases h1 with rfl | rfl | rfl
      · exact xt_0.c
      · exact xt_1.c
      · exact xt_2.c
    xm := fun i hi => by
      have h1 : i = 0 ∨ i = 1 ∨ i = 2 := by omega
      rcases h1 with rfl | rfl | rfl
      · exact xm_0
      · exact xm_1
      · exact xm_2 }
  have D0 : Df K mg "is_whole" s_is_whole ["thing"] := w0.df X G fun fd F => by
    obtain ⟨oc, od, kV, doc, pm, an, cdv, ct, osl, e, _⟩ := F.ex
    subst e
    exact F.binds fun _ _ _ _ _ _ us hl => match us, hl with | [_], _ => rfl
  have D1 : Df K mg "is_below" s_is_below ["thing", "size"] := w1.df X G fun fd F => by
    obtain ⟨oc, od, kV, doc, pm, an, cdv, ct, osl, e, _⟩ := F.ex
    subst e
    exact F.binds fun _ _ _ _ _ _ us hl => match us, hl with | [_, _], _ => rfl
  have D2 : Df K mg "power" s_power ["base", "many"] := w2.df X G fun fd F => by
    obtain ⟨oc, od, kV, doc, pm, an, cdv, ct, osl, e, _⟩ := F.ex
    subst e
    exact F.binds fun _ _ _ _ _ _ us hl => match us, hl with | [_, _], _ => rfl
  have D3 : Df K mg "is_name" s_is_name ["thing"] := w3.df X G fun fd F => by
    obtain ⟨oc, od, kV, doc, pm, an, cdv, ct, osl, e, _⟩ := F.ex
    subst e
    exact F.binds fun _ _ _ _ _ _ us hl => match us, hl with | [_], _ => rfl
  have D4 : Df K mg "is_deed" s_is_deed ["thing"] := w4.df X G fun fd F => by
    obtain ⟨oc, od, kV, doc, pm, an, cdv, ct, osl, e, _⟩ := F.ex
    subst e
    exact F.binds fun _ _ _ _ _ _ us hl => match us, hl with | [_], _ => rfl
  have D5 : Df K mg "signature_wrong" s_signature_wrong ["thing"] := w5.df X G fun fd F => by
    obtain ⟨oc, od, kV, doc, pm, an, cdv, ct, osl, e, _⟩ := F.ex
    subst e
    exact F.binds fun _ _ _ _ _ _ us hl => match us, hl with | [_], _ => rfl
  have D6 : Df K mg "need_signature" s_need_signature ["signature"] := w6.df X G fun fd F => by
    obtain ⟨oc, od, kV, doc, pm, an, cdv, ct, osl, e, _⟩ := F.ex
    subst e
    exact F.binds fun _ _ _ _ _ _ us hl => match us, hl with | [_], _ => rfl
  have D7 : Df K mg "is_size" s_is_size ["thing"] := w7.df X G fun fd F => by
    obtain ⟨oc, od, kV, doc, pm, an, cdv, ct, osl, e, _⟩ := F.ex
    subst e
    exact F.binds fun _ _ _ _ _ _ us hl => match us, hl with | [_], _ => rfl
  have D8 : Df K mg "first_odd_cell" s_first_odd_cell ["size", "tables"] := w8.df X G fun fd F => by
    obtain ⟨oc, od, kV, doc, pm, an, cdv, ct, osl, e, _⟩ := F.ex
    subst e
    exact F.binds fun _ _ _ _ _ _ us hl => match us, hl with | [_, _], _ => rfl
  have D9 : Df K mg "model_wrong" s_model_wrong ["signature", "thing"] := w9.df X G fun fd F => by
    obtain ⟨oc, od, kV, doc, pm, an, cdv, ct, osl, e, _⟩ := F.ex
    subst e
    exact F.binds fun _ _ _ _ _ _ us hl => match us, hl with | [_, _], _ => rfl
  have D10 : Df K mg "need_model" s_need_model ["signature", "model"] := w10.df X G fun fd F => by
    obtain ⟨oc, od, kV, doc, pm, an, cdv, ct, osl, e, _⟩ := F.ex
    subst e
    exact F.binds fun _ _ _ _ _ _ us hl => match us, hl with | [_, _], _ => rfl
  have D11 : Df K mg "are_unlike_below" s_are_unlike_below ["things", "size"] := w11.df X G fun fd F => by
    obtain ⟨oc, od, kV, doc, pm, an, cdv, ct, osl, e, _⟩ := F.ex
    subst e
    exact F.binds fun _ _ _ _ _ _ us hl => match us, hl with | [_, _], _ => rfl
  have D12 : Df K mg "is_order" s_is_order ["thing", "size"] := w12.df X G fun fd F => by
    obtain ⟨oc, od, kV, doc, pm, an, cdv, ct, osl, e, _⟩ := F.ex
    subst e
    exact F.binds fun _ _ _ _ _ _ us hl => match us, hl with | [_, _], _ => rfl
  have D13 : Df K mg "turned_back" s_turned_back ["order"] := w13.df X G fun fd F => by
    obtain ⟨oc, od, kV, doc, pm, an, cdv, ct, osl, e, _⟩ := F.ex
    subst e
    exact F.binds fun _ _ _ _ _ _ us hl => match us, hl with | [_], _ => rfl
  have D14 : Df K mg "renamed_table" s_renamed_table ["size", "places", "table", "order"] := w14.df X G fun fd F => by
    obtain ⟨oc, od, kV, doc, pm, an, cdv, ct, osl, e, _⟩ := F.ex
    subst e
    exact F.binds fun _ _ _ _ _ _ us hl => match us, hl with | [_, _, _, _], _ => rfl
  have D15 : Df K mg "renamed_tables" s_renamed_tables ["signature", "size", "tables", "order"] := w15.df X G fun fd F => by
    obtain ⟨oc, od, kV, doc, pm, an, cdv, ct, osl, e, _⟩ := F.ex
    subst e
    exact F.binds fun _ _ _ _ _ _ us hl => match us, hl with | [_, _, _, _], _ => rfl
  have D16 : Df K mg "renamed" s_renamed ["signature", "model", "order"] := w16.df X G fun fd F => by
    obtain ⟨oc, od, kV, doc, pm, an, cdv, ct, osl, e, _⟩ := F.ex
    subst e
    exact F.binds fun _ _ _ _ _ _ us hl => match us, hl with | [_, _, _], _ => rfl
  have D17 : Df K mg "composed" s_composed ["one", "other"] := w17.df X G fun fd F => by
    obtain ⟨oc, od, kV, doc, pm, an, cdv, ct, osl, e, _⟩ := F.ex
    subst e
    exact F.binds fun _ _ _ _ _ _ us hl => match us, hl with | [_, _], _ => rfl
  have D18 : Df K mg "renamed_by" s_renamed_by ["one", "other"] := w18.df X G fun fd F => by
    obtain ⟨oc, od, kV, doc, pm, an, cdv, ct, osl, e, _⟩ := F.ex
    subst e
    exact F.binds fun _ _ _ _ _ _ us hl => match us, hl with | [_, _], _ => rfl
  have D19 : Df K mg "_law_purse" s_purse ["_law_script"] := w19.df X G fun fd F => by
    obtain ⟨oc, od, kV, doc, pm, an, cdv, ct, osl, e, _⟩ := F.ex
    subst e
    exact F.binds fun _ _ _ _ _ _ us hl => match us, hl with | [_], _ => rfl
  have D20 : Df K mg "_law_draw" s_draw ["_law_purse_here", "_law_out_of"] := w20.df X G fun fd F => by
    obtain ⟨oc, od, kV, doc, pm, an, cdv, ct, osl, e, _⟩ := F.ex
    subst e
    exact F.binds fun _ _ _ _ _ _ us hl => match us, hl with | [_, _], _ => rfl
  have D21 : Df K mg "_law_mixed" s_mixed ["_law_purse_here", "_law_things"] := w21.df X G fun fd F => by
    obtain ⟨oc, od, kV, doc, pm, an, cdv, ct, osl, e, _⟩ := F.ex
    subst e
    exact F.binds fun _ _ _ _ _ _ us hl => match us, hl with | [_, _], _ => rfl
  have D22 : Df K mg "_law_order" s_ordr ["_law_purse_here", "_law_size"] := w22.df X G fun fd F => by
    obtain ⟨oc, od, kV, doc, pm, an, cdv, ct, osl, e, _⟩ := F.ex
    subst e
    exact F.binds fun _ _ _ _ _ _ us hl => match us, hl with | [_, _], _ => rfl
  have D23 : Df K mg "_law_table" s_tbl ["_law_purse_here", "_law_size", "_law_places"] := w23.df X G fun fd F => by
    obtain ⟨oc, od, kV, doc, pm, an, cdv, ct, osl, e, _⟩ := F.ex
    subst e
    exact F.binds fun _ _ _ _ _ _ us hl => match us, hl with | [_, _, _], _ => rfl
  have D24 : Df K mg "_law_model" s_mdl ["_law_purse_here", "_law_signature_here", "_law_size"] := w24.df X G fun fd F => by
    obtain ⟨oc, od, kV, doc, pm, an, cdv, ct, osl, e, _⟩ := F.ex
    subst e
    exact F.binds fun _ _ _ _ _ _ us hl => match us, hl with | [_, _, _], _ => rfl
  have D25 : Df K mg "rows_below" s_rows_below ["size", "many"] := w25.df X G fun fd F => by
    obtain ⟨oc, od, kV, doc, pm, an, cdv, ct, osl, e, _⟩ := F.ex
    subst e
    exact F.binds fun _ _ _ _ _ _ us hl => match us, hl with | [_, _], _ => rfl
  have D26 : Df K mg "is_same_for_all" s_is_same_for_all ["size", "places", "table"] := w26.df X G fun fd F => by
    obtain ⟨oc, od, kV, doc, pm, an, cdv, ct, osl, e, _⟩ := F.ex
    subst e
    exact F.binds fun _ _ _ _ _ _ us hl => match us, hl with | [_, _, _], _ => rfl
  have D27 : Df K mg "with_called" s_with_called ["olds", "names", "old"] := w27.df X G fun fd F => by
    obtain ⟨oc, od, kV, doc, pm, an, cdv, ct, osl, e, _⟩ := F.ex
    subst e
    exact F.binds fun _ _ _ _ _ _ us hl => match us, hl with | [_, _, _], _ => rfl
  have D28 : Df K mg "all_called" s_all_called ["begins", "many"] := w28.df X G fun fd F => by
    obtain ⟨oc, od, kV, doc, pm, an, cdv, ct, osl, e, _⟩ := F.ex
    subst e
    exact F.binds fun _ _ _ _ _ _ us hl => match us, hl with | [_, _], _ => rfl
  have D29 : Df K mg "least_worth" s_least_worth ["size", "table", "args", "begins"] := w29.df X G fun fd F => by
    obtain ⟨oc, od, kV, doc, pm, an, cdv, ct, osl, e, _⟩ := F.ex
    subst e
    exact F.binds fun _ _ _ _ _ _ us hl => match us, hl with | [_, _, _, _], _ => rfl
  have D30 : Df K mg "least_begins" s_least_begins ["signature", "size", "tables"] := w30.df X G fun fd F => by
    obtain ⟨oc, od, kV, doc, pm, an, cdv, ct, osl, e, _⟩ := F.ex
    subst e
    exact F.binds fun _ _ _ _ _ _ us hl => match us, hl with | [_, _, _], _ => rfl
  have D31 : Df K mg "orders_to_least" s_orders_to_least ["signature", "size", "tables"] := w31.df X G fun fd F => by
    obtain ⟨oc, od, kV, doc, pm, an, cdv, ct, osl, e, _⟩ := F.ex
    subst e
    exact F.binds fun _ _ _ _ _ _ us hl => match us, hl with | [_, _, _], _ => rfl
  have D32 : Df K mg "renamings_many" s_renamings_many ["signature", "size", "tables"] := w32.df X G fun fd F => by
    obtain ⟨oc, od, kV, doc, pm, an, cdv, ct, osl, e, _⟩ := F.ex
    subst e
    exact F.binds fun _ _ _ _ _ _ us hl => match us, hl with | [_, _, _], _ => rfl
  have D33 : Df K mg "own_orders_of" s_own_orders_of ["signature", "model"] := w33.df X G fun fd F => by
    obtain ⟨oc, od, kV, doc, pm, an, cdv, ct, osl, e, _⟩ := F.ex
    subst e
    exact F.binds fun _ _ _ _ _ _ us hl => match us, hl with | [_, _], _ => rfl
  have D34 : Df K mg "own_orders" s_own_orders ["signature", "model"] := w34.df X G fun fd F => by
    obtain ⟨oc, od, kV, doc, pm, an, cdv, ct, osl, e, _⟩ := F.ex
    subst e
    exact F.binds fun _ _ _ _ _ _ us hl => match us, hl with | [_, _], _ => rfl
  have D35 : Df K mg "renamings" s_renamings ["signature", "model"] := w35.df X G fun fd F => by
    obtain ⟨oc, od, kV, doc, pm, an, cdv, ct, osl, e, _⟩ := F.ex
    subst e
    exact F.binds fun _ _ _ _ _ _ us hl => match us, hl with | [_, _], _ => rfl
  have D36 : Df K mg "orbits" s_orbits ["signature", "model"] := w36.df X G fun fd F => by
    obtain ⟨oc, od, kV, doc, pm, an, cdv, ct, osl, e, _⟩ := F.ex
    subst e
    exact F.binds fun _ _ _ _ _ _ us hl => match us, hl with | [_, _], _ => rfl
  have D37 : Df K mg "table_of" s_table_of ["signature", "tables", "name"] := w37.df X G fun fd F => by
    obtain ⟨oc, od, kV, doc, pm, an, cdv, ct, osl, e, _⟩ := F.ex
    subst e
    exact F.binds fun _ _ _ _ _ _ us hl => match us, hl with | [_, _, _], _ => rfl
  have D38 : Df K mg "need_two_models" s_need_two_models ["signature", "one", "other"] := w38.df X G fun fd F => by
    obtain ⟨oc, od, kV, doc, pm, an, cdv, ct, osl, e, _⟩ := F.ex
    subst e
    exact F.binds fun _ _ _ _ _ _ us hl => match us, hl with | [_, _, _], _ => rfl
  have D39 : Df K mg "place_of_row" s_place_of_row ["size", "row"] := w39.df X G fun fd F => by
    obtain ⟨oc, od, kV, doc, pm, an, cdv, ct, osl, e, _⟩ := F.ex
    subst e
    exact F.binds fun _ _ _ _ _ _ us hl => match us, hl with | [_, _], _ => rfl
  have D40 : Df K mg "clashes" s_clashes ["signature", "one", "other", "images", "name", "numbers"] := w40.df X G fun fd F => by
    obtain ⟨oc, od, kV, doc, pm, an, cdv, ct, osl, e, _⟩ := F.ex
    subst e
    exact F.binds fun _ _ _ _ _ _ us hl => match us, hl with | [_, _, _, _, _, _], _ => rfl
  have D41 : Df K mg "first_clash" s_first_clash ["signature", "one", "other", "images"] := w41.df X G fun fd F => by
    obtain ⟨oc, od, kV, doc, pm, an, cdv, ct, osl, e, _⟩ := F.ex
    subst e
    exact F.binds fun _ _ _ _ _ _ us hl => match us, hl with | [_, _, _, _], _ => rfl
  have D42 : Df K mg "led_from" s_led_from ["signature", "one", "other", "images"] := w42.df X G fun fd F => by
    obtain ⟨oc, od, kV, doc, pm, an, cdv, ct, osl, e, _⟩ := F.ex
    subst e
    exact F.binds fun _ _ _ _ _ _ us hl => match us, hl with | [_, _, _, _], _ => rfl
  have D43 : Df K mg "likeness" s_likeness ["signature", "one", "other"] := w43.df X G fun fd F => by
    obtain ⟨oc, od, kV, doc, pm, an, cdv, ct, osl, e, _⟩ := F.ex
    subst e
    exact F.binds fun _ _ _ _ _ _ us hl => match us, hl with | [_, _, _], _ => rfl
  have D44 : Df K mg "least_form" s_least_form ["signature", "model"] := w44.df X G fun fd F => by
    obtain ⟨oc, od, kV, doc, pm, an, cdv, ct, osl, e, _⟩ := F.ex
    subst e
    exact F.binds fun _ _ _ _ _ _ us hl => match us, hl with | [_, _], _ => rfl
  have D45 : Df K mg "likeness_judged" s_likeness_judged ["signature", "one", "other", "paper"] := w45.df X G fun fd F => by
    obtain ⟨oc, od, kV, doc, pm, an, cdv, ct, osl, e, _⟩ := F.ex
    subst e
    exact F.binds fun _ _ _ _ _ _ us hl => match us, hl with | [_, _, _, _], _ => rfl
  have D46 : Df K mg "has_paper_form" s_has_paper_form ["paper"] := w46.df X G fun fd F => by
    obtain ⟨oc, od, kV, doc, pm, an, cdv, ct, osl, e, _⟩ := F.ex
    subst e
    exact F.binds fun _ _ _ _ _ _ us hl => match us, hl with | [_], _ => rfl
  have D47 : Df K mg "least_tables" s_least_tables ["signature", "size", "tables"] := w47.df X G fun fd F => by
    obtain ⟨oc, od, kV, doc, pm, an, cdv, ct, osl, e, _⟩ := F.ex
    subst e
    exact F.binds fun _ _ _ _ _ _ us hl => match us, hl with | [_, _, _], _ => rfl
  have D48 : Df K mg "_law_call_of" s__law_call_of ["_law_way_here", "_law_signature_here", "_law_one", "_law_other", "_law_order_here"] := w48.df X G fun fd F => by
    obtain ⟨oc, od, kV, doc, pm, an, cdv, ct, osl, e, _⟩ := F.ex
    subst e
    exact F.binds fun _ _ _ _ _ _ us hl => match us, hl with | [_, _, _, _, _], _ => rfl
  have D49 : Df K mg "_law_refused" s__law_refused ["_law_way_here", "_law_signature_here", "_law_one", "_law_other", "_law_order_here"] := w49.df X G fun fd F => by
    obtain ⟨oc, od, kV, doc, pm, an, cdv, ct, osl, e, _⟩ := F.ex
    subst e
    exact F.binds fun _ _ _ _ _ _ us hl => match us, hl with | [_, _, _, _, _], _ => rfl
  have D50 : Df K mg "_law_signature" s_sgn ["_law_purse_here", "_law_most"] := w50.df X G fun fd F => by
    obtain ⟨oc, od, kV, doc, pm, an, cdv, ct, osl, e, _⟩ := F.ex
    subst e
    exact F.binds fun _ _ _ _ _ _ us hl => match us, hl with | [_, _], _ => rfl
  have D51 : Df K mg "_law_pick" s__law_pick ["_law_purse_here", "_law_things"] := w51.df X G fun fd F => by
    obtain ⟨oc, od, kV, doc, pm, an, cdv, ct, osl, e, _⟩ := F.ex
    subst e
    exact F.binds fun _ _ _ _ _ _ us hl => match us, hl with | [_, _], _ => rfl
  have D52 : Df K mg "_law_no_model" s__law_no_model ["_law_purse_here", "_law_model_here"] := w52.df X G fun fd F => by
    obtain ⟨oc, od, kV, doc, pm, an, cdv, ct, osl, e, _⟩ := F.ex
    subst e
    exact F.binds fun _ _ _ _ _ _ us hl => match us, hl with | [_, _], _ => rfl
  have D53 : Df K mg "_law_no_order" s__law_no_order ["_law_purse_here", "_law_order_here"] := w53.df X G fun fd F => by
    obtain ⟨oc, od, kV, doc, pm, an, cdv, ct, osl, e, _⟩ := F.ex
    subst e
    exact F.binds fun _ _ _ _ _ _ us hl => match us, hl with | [_, _], _ => rfl
  obtain ⟨fd, F⟩ := wl.ex
  refine ⟨fd, s_law, ["_law_script", "_law_purse_here", "_law_time", "_law_signature_here", "_law_size", "_law_one", "_law_order_here", "_law_bad", "_law_strange", "_law_odd", "_law_gone", "_law_way_here", "_law_due_here", "_law_seen"], F, sc_law, fun s u => ?_, fun base s H cdv a ns inB nsB len seq => ?_⟩
  · obtain ⟨oc, od, kV, doc, pm, an, cdv, ct, osl, e, _⟩ := F.ex
    subst e
    exact .of_eq rfl
  · have c_is_whole := c_is_whole (P := P) (w := w) (base := base) T D0
    have c_is_below := c_is_below (P := P) (w := w) (base := base) T D1 c_is_whole
    have c_power := c_power (P := P) (w := w) (base := base) T D2
    have c_is_name := c_is_name (P := P) (w := w) (base := base) T D3
    have c_is_deed := c_is_deed (P := P) (w := w) (base := base) T D4 c_is_name c_is_below
    have c_signature_wrong := c_signature_wrong (P := P) (w := w) (base := base) T D5 c_is_deed
    have c_need_signature := c_need_signature (P := P) (w := w) (base := base) T D6 c_signature_wrong
    have c_is_size := c_is_size (P := P) (w := w) (base := base) T D7 c_is_whole
    have c_first_odd_cell := c_first_odd_cell (P := P) (w := w) (base := base) T D8 c_is_below
    have c_model_wrong := c_model_wrong (P := P) (w := w) (base := base) T D9 c_need_signature c_is_size c_power c_first_odd_cell
    have c_need_model := c_need_model (P := P) (w := w) (base := base) T D10 c_model_wrong
    have c_are_unlike_below := c_are_unlike_below (P := P) (w := w) (base := base) T D11 c_is_below
    have c_is_order := c_is_order (P := P) (w := w) (base := base) T D12 c_are_unlike_below
    have c_turned_back := c_turned_back (P := P) (w := w) (base := base) T D13
    have c_renamed_table := c_renamed_table (P := P) (w := w) (base := base) T D14 c_turned_back
    have c_renamed_tables := c_renamed_tables (P := P) (w := w) (base := base) T D15 c_renamed_table
    have c_renamed := c_renamed (P := P) (w := w) (base := base) T D16 c_need_model c_is_order c_renamed_tables
    have c_composed := c_composed (P := P) (w := w) (base := base) T D17
    have c_renamed_by := c_renamed_by (P := P) (w := w) (base := base) T D18 c_is_order c_composed
    have c_purse := c_purse (P := P) (w := w) (base := base) T D19
    have c_draw := c_draw (P := P) (w := w) (base := base) T D20
    have c_mixed := c_mixed (P := P) (w := w) (base := base) T D21 c_draw
    have c_order := c_order (P := P) (w := w) (base := base) T D22 c_mixed
    have c_table := c_table (P := P) (w := w) (base := base) T D23 c_draw c_mixed
    have c_model := c_model (P := P) (w := w) (base := base) T D24 c_table
    have c_rows_below := c_rows_below (P := P) (w := w) (base := base) T D25
    have c_is_same_for_all := c_is_same_for_all (P := P) (w := w) (base := base) T D26 c_renamed_table
    have c_with_called := c_with_called (P := P) (w := w) (base := base) T D27
    have c_all_called := c_all_called (P := P) (w := w) (base := base) T D28 c_with_called
    have c_least_worth := c_least_worth (P := P) (w := w) (base := base) T D29 c_with_called
    have c_least_begins := c_least_begins (P := P) (w := w) (base := base) T D30 c_rows_below c_is_same_for_all c_all_called c_least_worth
    have c_orders_to_least := c_orders_to_least (P := P) (w := w) (base := base) T D31 c_all_called c_least_begins
    have c_renamings_many := c_renamings_many (P := P) (w := w) (base := base) T D32 c_orders_to_least
    have c_own_orders_of := c_own_orders_of (P := P) (w := w) (base := base) T D33 c_orders_to_least c_turned_back c_composed
    have c_own_orders := c_own_orders (P := P) (w := w) (base := base) T D34 c_need_model c_own_orders_of
    have c_renamings := c_renamings (P := P) (w := w) (base := base) T D35 c_need_model c_renamings_many
    have c_orbits := c_orbits (P := P) (w := w) (base := base) T D36 c_need_model c_own_orders_of
    have c_table_of := c_table_of (P := P) (w := w) (base := base) T D37
    have c_need_two_models := c_need_two_models (P := P) (w := w) (base := base) T D38 c_need_model
    have c_place_of_row := c_place_of_row (P := P) (w := w) (base := base) T D39
    have c_place_of_rowT := c_place_of_rowT (P := P) (w := w) (base := base) T D39
    have c_clashes := c_clashes (P := P) (w := w) (base := base) T D40 c_table_of c_place_of_row c_place_of_rowT
    have c_first_clash := c_first_clash (P := P) (w := w) (base := base) T D41 c_rows_below c_clashes
    have c_led_from := c_led_from (P := P) (w := w) (base := base) T D42 c_first_clash
    have c_likeness := c_likeness (P := P) (w := w) (base := base) T D43 c_need_two_models c_led_from
    have c_whole_any := c_whole_any (P := P) (w := w) (base := base) T D0
    have c_below_any := c_below_any (P := P) (w := w) (base := base) T D1 c_whole_any
    have c_name_any := c_name_any (P := P) (w := w) (base := base) T D3
    have c_deed_any := c_deed_any (P := P) (w := w) (base := base) T D4 c_name_any c_below_any
    have c_sig_any := c_sig_any (P := P) (w := w) (base := base) T D5 c_deed_any
    have c_size_any := c_size_any (P := P) (w := w) (base := base) T D7 c_whole_any
    have c_odd_any := c_odd_any (P := P) (w := w) (base := base) T D8 c_below_any
    have c_mod_any := c_mod_any (P := P) (w := w) (base := base) T D9 c_need_signature c_size_any c_power c_odd_any
    have c_need_signatureX := c_need_signatureX (P := P) (w := w) (base := base) T D6 erK c_sig_any
    have c_model_wrongX := c_model_wrongX (P := P) (w := w) (base := base) T D9 erK c_need_signatureX
    have c_need_modelX := c_need_modelX (P := P) (w := w) (base := base) T D10 erK c_model_wrongX c_mod_any
    have c_least_formX := c_least_formX (P := P) (w := w) (base := base) T D44 erK c_need_modelX
    have c_own_ordersX := c_own_ordersX (P := P) (w := w) (base := base) T D34 erK c_need_modelX
    have c_renamingsX := c_renamingsX (P := P) (w := w) (base := base) T D35 erK c_need_modelX
    have c_orbitsX := c_orbitsX (P := P) (w := w) (base := base) T D36 erK c_need_modelX
    have c_need_two_modelsX := c_need_two_modelsX (P := P) (w := w) (base := base) T D38 erK c_need_modelX c_need_model
    have c_likenessX := c_likenessX (P := P) (w := w) (base := base) T D43 erK c_need_two_modelsX
    have c_likeness_judgedX := c_likeness_judgedX (P := P) (w := w) (base := base) T D45 erK c_need_two_modelsX
    have c_unlike_any := c_unlike_any (P := P) (w := w) (base := base) T D11 c_below_any
    have c_order_any := c_order_any (P := P) (w := w) (base := base) T D12 c_unlike_any
    have c_renamedX := c_renamedX (P := P) (w := w) (base := base) T D16 erK c_need_modelX c_need_model c_order_any
    have c_renamed_byX := c_renamed_byX (P := P) (w := w) (base := base) T D18 erK c_order_any
    have c_has_paper_formN := c_has_paper_formN (P := P) (w := w) (base := base) T D46
    have c_judgedN := c_judgedN (P := P) (w := w) (base := base) T D45 c_need_two_models c_has_paper_formN
    have c_least_tables := c_least_tables (P := P) (w := w) (base := base) T D47 c_least_begins
    have c_least_form := c_least_form (P := P) (w := w) (base := base) T D44 c_need_model c_least_tables
    have c_callX := c_callX (P := P) (w := w) (base := base) T D48 c_renamedX c_least_formX c_own_ordersX c_renamingsX c_orbitsX c_likenessX c_likeness_judgedX c_renamed_byX
    have c_callG := c_callG (P := P) (w := w) (base := base) T D48 c_renamed c_least_form c_own_orders c_renamings c_orbits c_likeness c_judgedN c_renamed_by
    have c_refused := c_refused (P := P) (w := w) (base := base) T D49 erK c_callX c_callG
    have c_signature3 := c_signature3 (P := P) (w := w) (base := base) T D50 c_draw c_mixed
    have c_pick := c_pick (P := P) (w := w) (base := base) T D51 c_draw
    have c_no_model := c_no_model (P := P) (w := w) (base := base) T D52 c_draw c_pick
    have c_no_order := c_no_order (P := P) (w := w) (base := base) T D53 c_pick
    exact law_ok T c_purse c_draw c_signature3 c_model c_order c_pick c_no_model c_no_order c_refused room s H fa cdv a ns len seq
end K24
end
open PySem PySem.W PyProof.Rows
set_option maxHeartbeats 0 in
theorem PySem.Challenge.cw_deedworlds_k24_maps_refused_holds : PySem.Challenge.rw_deedworlds_k24_maps_refused.Holds := by
  w_on; o_law; k_head; (case hw => w_witness2)
  k_fill
  refine Dw.walkG (l := PySem.Challenge.rw_deedworlds_k24_maps_refused) (n := 63) (k := 14) (x := "_law_script") rfl (by decide) rfl ⟨rfl, by decide, by decide⟩ (fun w h Y => PySem.W.kIn_of Y) ?F
  case F =>
    intro w mg fa h KX G hmg
    refine' K24.all_mk KX G hmg ⟨rfl, by decide, by decide⟩ (K24.wr_mk ?a0 ?l0 ?c0 ?k0) (K24.wr_mk ?a1 ?l1 ?c1 ?k1) (K24.wr_mk ?a2 ?l2 ?c2 ?k2) (K24.wr_mk ?a3 ?l3 ?c3 ?k3) (K24.wr_mk ?a4 ?l4 ?c4 ?k4) (K24.wr_mk ?a5 ?l5 ?c5 ?k5) (K24.wr_mk ?a6 ?l6 ?c6 ?k6) (K24.wr_mk ?a7 ?l7 ?c7 ?k7) (K24.wr_mk ?a8 ?l8 ?c8 ?k8) (K24.wr_mk ?a9 ?l9 ?c9 ?k9) (K24.wr_mk ?a10 ?l10 ?c10 ?k10) (K24.wr_mk ?a11 ?l11 ?c11 ?k11) (K24.wr_mk ?a12 ?l12 ?c12 ?k12) (K24.wr_mk ?a13 ?l13 ?c13 ?k13) (K24.wr_mk ?a14 ?l14 ?c14 ?k14) (K24.wr_mk ?a15 ?l15 ?c15 ?k15) (K24.wr_mk ?a16 ?l16 ?c16 ?k16) (K24.wr_mk ?a17 ?l17 ?c17 ?k17) (K24.wr_mk ?a18 ?l18 ?c18 ?k18) (K24.wr_mk ?a19 ?l19 ?c19 ?k19) (K24.wr_mk ?a20 ?l20 ?c20 ?k20) (K24.wr_mk ?a21 ?l21 ?c21 ?k21) (K24.wr_mk ?a22 ?l22 ?c22 ?k22) (K24.wr_mk ?a23 ?l23 ?c23 ?k23) (K24.wr_mk ?a24 ?l24 ?c24 ?k24) (K24.wr_mk ?a25 ?l25 ?c25 ?k25) (K24.wr_mk ?a26 ?l26 ?c26 ?k26) (K24.wr_mk ?a27 ?l27 ?c27 ?k27) (K24.wr_mk ?a28 ?l28 ?c28 ?k28) (K24.wr_mk ?a29 ?l29 ?c29 ?k29) (K24.wr_mk ?a30 ?l30 ?c30 ?k30) (K24.wr_mk ?a31 ?l31 ?c31 ?k31) (K24.wr_mk ?a32 ?l32 ?c32 ?k32) (K24.wr_mk ?a33 ?l33 ?c33 ?k33) (K24.wr_mk ?a34 ?l34 ?c34 ?k34) (K24.wr_mk ?a35 ?l35 ?c35 ?k35) (K24.wr_mk ?a36 ?l36 ?c36 ?k36) (K24.wr_mk ?a37 ?l37 ?c37 ?k37) (K24.wr_mk ?a38 ?l38 ?c38 ?k38) (K24.wr_mk ?a39 ?l39 ?c39 ?k39) (K24.wr_mk ?a40 ?l40 ?c40 ?k40) (K24.wr_mk ?a41 ?l41 ?c41 ?k41) (K24.wr_mk ?a42 ?l42 ?c42 ?k42) (K24.wr_mk ?a43 ?l43 ?c43 ?k43) (K24.wr_mk ?a44 ?l44 ?c44 ?k44) (K24.wr_mk ?a45 ?l45 ?c45 ?k45) (K24.wr_mk ?a46 ?l46 ?c46 ?k46) (K24.wr_mk ?a47 ?l47 ?c47 ?k47) (K24.wr_mk ?a48 ?l48 ?c48 ?k48) (K24.wr_mk ?a49 ?l49 ?c49 ?k49) (K24.wr_mk ?a50 ?l50 ?c50 ?k50) (K24.wr_mk ?a51 ?l51 ?c51 ?k51) (K24.wr_mk ?a52 ?l52 ?c52 ?k52) (K24.wr_mk ?a53 ?l53 ?c53 ?k53) (K24.wr_mk ?al ?ll ?cl ?kl) ?x6 ?x7 ?xg ?y1 ?y2 ?y3 ?xa0 ?xa1 ?xa2 ?xk0 ?xq0 ?xt0 ?x1_0 ?x2_0 ?x3_0 ?x4_0 ?x5_0 ?x8_0 ?y4_0 ?v_0 ?o0_0 ?o0_1 ?o0_2 ?xk1 ?xq1 ?xt1 ?x1_1 ?x2_1 ?x3_1 ?x4_1 ?x5_1 ?x8_1 ?y4_1 ?v_1 ?o1_0 ?o1_1 ?o1_2 ?xk2 ?xq2 ?xt2 ?x1_2 ?x2_2 ?x3_2 ?x4_2 ?x5_2 ?x8_2 ?y4_2 ?v_2 ?o2_0 ?o2_1 ?o2_2 ?z_ValueError ?z_abs ?z_all ?z_bool ?z_enumerate ?z_int ?z_isinstance ?z_len ?z_list ?z_max ?z_min ?z_range ?z_reversed ?z_set ?z_sorted ?z_str ?z_tuple ?z_zip ?z_repr ?k_NAME_LETTERS ?k_MOST_NAME ?k_MOST_DEEDS ?k_MOST_PLACES ?k_MOST_SIZE
    (case a0 => k_is); (case l0 => k_is); (case c0 => k_is); (case k0 => k_is)
    (case a1 => k_is); (case l1 => k_is); (case c1 => k_is); (case k1 => k_is)
    (case a2 => k_is); (case l2 => k_is); (case c2 => k_is); (case k2 => k_is)
    (case a3 => k_is); (case l3 => k_is); (case c3 => k_is); (case k3 => k_is)
    (case a4 => k_is); (case l4 => k_is); (case c4 => k_is); (case k4 => k_is)
    (case a5 => k_is); (case l5 => k_is); (case c5 => k_is); (case k5 => k_is)
    (case a6 => k_is); (case l6 => k_is); (case c6 => k_is); (case k6 => k_is)
    (case a7 => k_is); (case l7 => k_is); (case c7 => k_is); (case k7 => k_is)
    (case a8 => k_is); (case l8 => k_is); (case c8 => k_is); (case k8 => k_is)
    (case a9 => k_is); (case l9 => k_is); (case c9 => k_is); (case k9 => k_is)
    (case a10 => k_is); (case l10 => k_is); (case c10 => k_is); (case k10 => k_is)
    (case a11 => k_is); (case l11 => k_is); (case c11 => k_is); (case k11 => k_is)
    (case a12 => k_is); (case l12 => k_is); (case c12 => k_is); (case k12 => k_is)
    (case a13 => k_is); (case l13 => k_is); (case c13 => k_is); (case k13 => k_is)
    (case a14 => k_is); (case l14 => k_is); (case c14 => k_is); (case k14 => k_is)
    (case a15 => k_is); (case l15 => k_is); (case c15 => k_is); (case k15 => k_is)
    (case a16 => k_is); (case l16 => k_is); (case c16 => k_is); (case k16 => k_is)
    (case a17 => k_is); (case l17 => k_is); (case c17 => k_is); (case k17 => k_is)
    (case a18 => k_is); (case l18 => k_is); (case c18 => k_is); (case k18 => k_is)
    (case a19 => k_is); (case l19 => k_is); (case c19 => k_is); (case k19 => k_is)
    (case a20 => k_is); (case l20 => k_is); (case c20 => k_is); (case k20 => k_is)
    (case a21 => k_is); (case l21 => k_is); (case c21 => k_is); (case k21 => k_is)
    (case a22 => k_is); (case l22 => k_is); (case c22 => k_is); (case k22 => k_is)
    (case a23 => k_is); (case l23 => k_is); (case c23 => k_is); (case k23 => k_is)
    (case a24 => k_is); (case l24 => k_is); (case c24 => k_is); (case k24 => k_is)
    (case a25 => k_is); (case l25 => k_is); (case c25 => k_is); (case k25 => k_is)
    (case a26 => k_is); (case l26 => k_is); (case c26 => k_is); (case k26 => k_is)
    (case a27 => k_is); (case l27 => k_is); (case c27 => k_is); (case k27 => k_is)
    (case a28 => k_is); (case l28 => k_is); (case c28 => k_is); (case k28 => k_is)
    (case a29 => k_is); (case l29 => k_is); (case c29 => k_is); (case k29 => k_is)
    (case a30 => k_is); (case l30 => k_is); (case c30 => k_is); (case k30 => k_is)
    (case a31 => k_is); (case l31 => k_is); (case c31 => k_is); (case k31 => k_is)
    (case a32 => k_is); (case l32 => k_is); (case c32 => k_is); (case k32 => k_is)
    (case a33 => k_is); (case l33 => k_is); (case c33 => k_is); (case k33 => k_is)
    (case a34 => k_is); (case l34 => k_is); (case c34 => k_is); (case k34 => k_is)
    (case a35 => k_is); (case l35 => k_is); (case c35 => k_is); (case k35 => k_is)
    (case a36 => k_is); (case l36 => k_is); (case c36 => k_is); (case k36 => k_is)
    (case a37 => k_is); (case l37 => k_is); (case c37 => k_is); (case k37 => k_is)
    (case a38 => k_is); (case l38 => k_is); (case c38 => k_is); (case k38 => k_is)
    (case a39 => k_is); (case l39 => k_is); (case c39 => k_is); (case k39 => k_is)
    (case a40 => k_is); (case l40 => k_is); (case c40 => k_is); (case k40 => k_is)
    (case a41 => k_is); (case l41 => k_is); (case c41 => k_is); (case k41 => k_is)
    (case a42 => k_is); (case l42 => k_is); (case c42 => k_is); (case k42 => k_is)
    (case a43 => k_is); (case l43 => k_is); (case c43 => k_is); (case k43 => k_is)
    (case a44 => k_is); (case l44 => k_is); (case c44 => k_is); (case k44 => k_is)
    (case a45 => k_is); (case l45 => k_is); (case c45 => k_is); (case k45 => k_is)
    (case a46 => k_is); (case l46 => k_is); (case c46 => k_is); (case k46 => k_is)
    (case a47 => k_is); (case l47 => k_is); (case c47 => k_is); (case k47 => k_is)
    (case a48 => k_is); (case l48 => k_is); (case c48 => k_is); (case k48 => k_is)
    (case a49 => k_is); (case l49 => k_is); (case c49 => k_is); (case k49 => k_is)
    (case a50 => k_is); (case l50 => k_is); (case c50 => k_is); (case k50 => k_is)
    (case a51 => k_is); (case l51 => k_is); (case c51 => k_is); (case k51 => k_is)
    (case a52 => k_is); (case l52 => k_is); (case c52 => k_is); (case k52 => k_is)
    (case a53 => k_is); (case l53 => k_is); (case c53 => k_is); (case k53 => k_is)
    (case al => k_is); (case ll => k_is); (case cl => k_is); (case kl => k_is)
    (case x6 => k_is); (case x7 => k_is); (case xg => k_is); (case y1 => k_is); (case y2 => k_is); (case y3 => k_is); (case xa0 => k_is); (case xa1 => k_is); (case xa2 => k_is); (case xk0 => k_is); (case xq0 => k_exc); (case xt0 => k_is); (case x1_0 => k_is); (case x2_0 => k_is); (case x3_0 => k_is); (case x4_0 => k_is); (case x5_0 => k_is); (case x8_0 => k_is); (case y4_0 => first | rfl | k_is); (case v_0 => kit_is); (case o0_0 => kit_is); (case o0_1 => kit_is); (case o0_2 => kit_is); (case xk1 => k_is); (case xq1 => k_exc); (case xt1 => k_is); (case x1_1 => k_is); (case x2_1 => k_is); (case x3_1 => k_is); (case x4_1 => k_is); (case x5_1 => k_is); (case x8_1 => k_is); (case y4_1 => first | rfl | k_is); (case v_1 => kit_is); (case o1_0 => kit_is); (case o1_1 => kit_is); (case o1_2 => kit_is); (case xk2 => k_is); (case xq2 => k_exc); (case xt2 => k_is); (case x1_2 => k_is); (case x2_2 => k_is); (case x3_2 => k_is); (case x4_2 => k_is); (case x5_2 => k_is); (case x8_2 => k_is); (case y4_2 => first | rfl | k_is); (case v_2 => kit_is); (case o2_0 => kit_is); (case o2_1 => kit_is); (case o2_2 => kit_is)
    (case z_ValueError => k_is); (case z_abs => k_is); (case z_all => k_is); (case z_bool => k_is); (case z_enumerate => k_is); (case z_int => k_is); (case z_isinstance => k_is); (case z_len => k_is); (case z_list => k_is); (case z_max => k_is); (case z_min => k_is); (case z_range => k_is); (case z_reversed => k_is); (case z_set => k_is); (case z_sorted => k_is); (case z_str => k_is); (case z_tuple => k_is); (case z_zip => k_is); (case z_repr => k_is)
    (case k_NAME_LETTERS => k_is); (case k_MOST_NAME => k_is); (case k_MOST_DEEDS => k_is); (case k_MOST_PLACES => k_is); (case k_MOST_SIZE => k_is)
