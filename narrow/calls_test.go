package narrow_test

import (
	"fmt"
	"math"
	"strings"
	"testing"

	"narrow/narrow"
)

// answers are what all calls answer at these arguments.
func answers(text, input string, fuel int) string {
	a, b, c := narrow.Run(text, input, fuel)
	d, e, f := narrow.Graph(text)
	g, h, i := narrow.Walk(text, input, fuel)
	j, k := narrow.Flow(text)
	l, m := narrow.Accept(text)
	n, o := narrow.Prune(text)
	return fmt.Sprintf("%q %q %d|%q %d %d|%q %q %d|%q %d|%d %d|%q %d", a, b, c, d, e, f, g, h, i, j, k, l, m, n, o)
}

// TestEveryCallEnds: texts of any bytes and lengths, deep ones among them, and numbers of any size.
func TestEveryCallEnds(t *testing.T) {
	texts := []string{
		"", "\x00", "\xff", "é", strings.Repeat("!", 180), strings.Repeat("(", 180), strings.Repeat("[&", 90), "(" + strings.Repeat("!", 179),
		strings.Repeat("[a{", 60), strings.Repeat("[!a{", 25) + strings.Repeat("}]", 25), strings.Repeat("(a{", 22) + strings.Repeat("}{})", 22), strings.Repeat("(a{}{", 20) + strings.Repeat("})", 20),
		strings.Repeat("!;", 90), strings.Repeat("a", 181), strings.Repeat("a=1;", 45), strings.Repeat("a=1;", 46), strings.Repeat("(", 5000000), strings.Repeat("a=1,01;", 128), strings.Repeat("a=1,01;", 90),
		strings.Repeat("*,00;", 90), strings.Repeat("*,00;", 180), strings.Repeat("a:n,00,90;", 90), strings.Repeat("*,01;", 5000000),
	}
	d := dice{2}
	for i := 0; i < 3000; i++ {
		texts = append(texts, d.text(alphabet, d.below(200)), d.damaged(d.graph(d.below(20))))
	}
	for _, text := range texts {
		for _, fuel := range []int{math.MinInt, -1, 0, 7, 300, 301, math.MaxInt} {
			answers(text, "1T", fuel)
		}
		told, out, e := narrow.Run(text, text, 300)
		if (e == narrow.ErrLong || e == narrow.ErrForm) && told+out != "" {
			t.Errorf("P1: Run(%.200q) answers %q, %q with the error %d", text, told, out, e)
		}
		if (e == narrow.ErrLong) != (len(text) > 40) {
			t.Errorf("P1: an input of %d bytes: %d", len(text), e)
		}
		graph, e, place := narrow.Graph(text)
		if (e == narrow.ErrLong) != (len(text) > 180) || (e != narrow.OK && graph != "") || (e != narrow.ErrForm && place != 0) {
			t.Errorf("P1: Graph(%.200q) answers %q, %d, %d", text, graph, e, place)
		}
		told, out, e = narrow.Walk(text, "1", 300)
		if (e == narrow.ErrLong) != (len(text) > 900) || (e != narrow.OK && e <= narrow.ErrLink && told+out != "") {
			t.Errorf("P1: Walk(%.200q) answers %q, %q, %d", text, told, out, e)
		}
		table, e := narrow.Flow(text)
		pruned, f := narrow.Prune(text)
		fault, at := narrow.Accept(text)
		if (e == narrow.ErrLong) != (len(text) > 900) || e > narrow.ErrLink || f != e || (e != narrow.OK && (fault != e || table+pruned != "")) {
			t.Errorf("P1: Flow(%.200q) answers %q, %d, Prune %q, %d, Accept %d", text, table, e, pruned, f, fault)
		}
		if (fault == narrow.OK || fault == narrow.ErrLong) && at != 0 {
			t.Errorf("P1: Accept(%.200q) answers %d, %d", text, fault, at)
		}
	}
}

// TestNothingIsKept: the same arguments have the same answers, whatever was called between.
func TestNothingIsKept(t *testing.T) {
	d := dice{3}
	texts, inputs, firsts := []string{}, []string{}, []string{}
	for i := 0; i < 2000; i++ {
		text, input := d.statements(3, false), d.text("019TFZABCx", d.below(41))
		if i%2 == 0 {
			text = d.graph(d.below(12))
		}
		if i%5 == 0 {
			text += d.pick(alphabet)
		}
		texts, inputs = append(texts, text), append(inputs, input)
		firsts = append(firsts, answers(text, input, i%302))
	}
	for i := len(texts) - 1; i >= 0; i-- {
		for again := 0; again < 2; again++ {
			if now := answers(texts[i], inputs[i], i%302); now != firsts[i] {
				t.Errorf("P2: %q, %q, %d: %s, then %s", texts[i], inputs[i], i%302, firsts[i], now)
			}
		}
	}
}
