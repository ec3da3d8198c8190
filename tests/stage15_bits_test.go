package tests

import (
	"math/rand"
	"strconv"

	"loop.example/g00007/impl"
)

// A wordDraw draws a bank over Bools and words alone.
type wordDraw struct {
	r    *rand.Rand
	h    *termHeap
	most int // the widest word
}

// one is a term of a sort that is there.
func (d *wordDraw) one(sort string) (id int, isThere bool) {
	var ids []int
	for id, x := range d.h.bank.Terms {
		if x.Sort == sort {
			ids = append(ids, id)
		}
	}
	if len(ids) == 0 {
		return 0, false
	}
	return ids[d.r.Intn(len(ids))], true
}

// put adds a term with drawn kids of these sorts, if there are any.
func (d *wordDraw) put(x impl.Term, sorts ...string) {
	for _, sort := range sorts {
		kid, isThere := d.one(sort)
		if !isThere {
			return
		}
		x.Kids = append(x.Kids, kid)
	}
	d.h.add(x)
}

// word is the sort of a drawn term of bits.
func (d *wordDraw) word() (sort string, width int) {
	for {
		x := d.h.bank.Terms[d.r.Intn(len(d.h.bank.Terms))]
		if width := impl.ReadSort(nil, x.Sort).Width; width > 0 {
			return x.Sort, width
		}
	}
}

func (d *wordDraw) step() {
	r := d.r
	word, w := d.word()
	other, v := d.word()
	sort := []string{"Bool", word}[r.Intn(2)]
	switch r.Intn(16) {
	case 0:
		d.put(term(impl.OpNot, "Bool"), "Bool")
	case 1:
		d.put(term(impl.OpAnd+r.Intn(2), "Bool"), []string{"Bool", "Bool", "Bool"}[:2+r.Intn(2)]...)
	case 2:
		d.put(term(impl.OpXor+r.Intn(2), "Bool"), "Bool", "Bool")
	case 3:
		d.put(term(impl.OpIte, sort), "Bool", sort, sort)
	case 4, 5:
		d.put(term(impl.OpEq, "Bool"), sort, sort)
	case 6:
		d.put(term(impl.OpDistinct, "Bool"), []string{word, word, word}[:2+r.Intn(2)]...)
	case 7:
		d.h.add(impl.Term{Op: impl.OpBits, Sort: word, Text: wordText(w, r.Uint64()%(1<<w))[2:]})
	case 8:
		d.put(term(impl.OpBvNot+r.Intn(2), word), word)
	case 9, 10, 11:
		d.put(term(impl.OpBvAnd+r.Intn(11), word), word, word)
	case 12, 13:
		d.put(term(impl.OpBvUlt+r.Intn(4), "Bool"), word, word)
	case 14:
		if w+v <= d.most {
			d.put(term(impl.OpConcat, bitsOf(w+v)), word, other)
		}
		if w < d.most {
			more := 1 + r.Intn(d.most-w)
			d.put(impl.Term{Op: impl.OpZext + r.Intn(2), Sort: bitsOf(w + more), A: more}, word)
		}
	case 15:
		high := r.Intn(w)
		low := r.Intn(high + 1)
		d.put(impl.Term{Op: impl.OpExtract, Sort: bitsOf(high - low + 1), A: high, B: low}, word)
	}
}

// drawWordBank is a bank as promise 16 names it: at most 14 terms beside the constants, and 8 digits in all words that are declared.
func drawWordBank(r *rand.Rand, most int) impl.Bank {
	b := impl.NewBank()
	declare := func(sort string) {
		name := "c" + strconv.Itoa(len(b.Funs))
		b.Funs = append(b.Funs, impl.Fun{Name: name, Sort: sort})
		b.Terms = append(b.Terms, constant(name, sort))
	}
	for digits := 1 + r.Intn(8); digits > 0; {
		w := 1 + r.Intn(min(digits, most))
		declare(bitsOf(w))
		digits -= w
	}
	for range r.Intn(4) {
		declare("Bool")
	}
	d := &wordDraw{r, heapOn(b), most}
	for enough := len(b.Terms) + 1 + r.Intn(14); len(d.h.bank.Terms) < enough; {
		before := d.h.bank
		if d.step(); len(d.h.bank.Terms) > enough {
			d.h = heapOn(before)
			break
		}
	}
	return d.h.bank
}

// isSatWords tries all values of the constants of a bank over Bools and words alone.
func isSatWords(b impl.Bank, asks []int) bool {
	var widths []int
	digits := 0
	for _, f := range b.Funs {
		w := max(1, impl.ReadSort(nil, f.Sort).Width)
		widths = append(widths, w)
		digits += w
	}
	for all := range uint64(1) << digits {
		var m impl.Model
		rest := all
		for i, f := range b.Funs {
			text := wordText(widths[i], rest%(1<<widths[i]))
			if f.Sort == "Bool" {
				text = strconv.FormatBool(rest%2 == 1)
			}
			rest >>= widths[i]
			m.Interps = append(m.Interps, impl.Interp{Name: f.Name, Rest: text})
		}
		if impl.Holds(b, m, asks) {
			return true
		}
	}
	return false
}
