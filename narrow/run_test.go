package narrow_test

import (
	"fmt"
	"math"
	"strings"
	"testing"

	"narrow/narrow"
)

// example is a call of Run and what it answers.
type example struct {
	source, input string
	fuel          int
	told, out     string
	e             narrow.Errno
}

func checkRuns(t *testing.T, promise string, examples []example) {
	t.Helper()
	for _, c := range examples {
		told, out, e := narrow.Run(c.source, c.input, c.fuel)
		if told != c.told || out != c.out || e != c.e {
			t.Errorf("%s: Run(%q, %q, %d) = %q, %q, %d, want %q, %q, %d", promise, c.source, c.input, c.fuel, told, out, e, c.told, c.out, c.e)
		}
	}
}

// numbersTold are the numbers of the nodes that began, each with a blank behind it.
func numbersTold(told string) string {
	numbers := ""
	for _, word := range strings.Fields(told) {
		numbers += word[:2] + " "
	}
	return numbers
}

func TestExamplesOfTheDocument(t *testing.T) {
	source := "a=?;(a:n{b=+aa;^b;}{^a;})"
	checkRuns(t, "P4", []example{
		{source, "7", 9, "00zzzzzz 01nzzzzz 02nzzzzz 03nnzzzz ", "14 ", narrow.OK},
		{source, "7", 2, "00zzzzzz 01nzzzzz ", "", narrow.ErrFuel},
		{source, "T", 9, "00zzzzzz 01tzzzzz 04tzzzzz ", "T ", narrow.OK},
	})
}

func TestLimits(t *testing.T) {
	full := strings.Repeat("a=b;", 45)
	noSource := strings.Repeat("x", 180)
	for _, c := range []struct {
		source, input string
		fuel          int
		e             narrow.Errno
	}{
		{full, "", 300, narrow.OK},
		{full + "a", "", 300, narrow.ErrLong},
		{full + "a=b;", "", 300, narrow.ErrLong},
		{noSource, "", 300, narrow.ErrForm},
		{noSource + "x", "", 300, narrow.ErrLong},
		{"", strings.Repeat("1", 40), 0, narrow.OK},
		{"", strings.Repeat("1", 41), 0, narrow.ErrLong},
		{"", strings.Repeat("\xff", 40), 0, narrow.OK},
		{"", strings.Repeat("é", 21), 0, narrow.ErrLong},
		{"", "", 300, narrow.OK},
		{"", "", 301, narrow.ErrLong},
		{"", "", -1, narrow.ErrLong},
		{"", "", math.MaxInt, narrow.ErrLong},
		{"", "", math.MinInt, narrow.ErrLong},
		{"x", strings.Repeat("1", 41), 0, narrow.ErrLong},
		{"x", "", -1, narrow.ErrLong},
		{"x", "", 301, narrow.ErrLong},
		{"x", "", 0, narrow.ErrForm},
		{"!;", "", 0, narrow.ErrFuel},
	} {
		told, out, e := narrow.Run(c.source, c.input, c.fuel)
		if e != c.e {
			t.Errorf("P3: Run of %d bytes, %d of input, fuel %d: %d, want %d", len(c.source), len(c.input), c.fuel, e, c.e)
		}
		if (e == narrow.ErrLong || e == narrow.ErrForm) && told+out != "" {
			t.Errorf("P1: Run of %d bytes, %d of input, fuel %d: %q, %q with the error %d", len(c.source), len(c.input), c.fuel, told, out, e)
		}
	}
}

func TestSources(t *testing.T) {
	for _, s := range []string{
		"", "a=0;", "f=9;", "a=T;", "a=F;", "a=Z;", "a=C;", "a=?;", "a=f;", "a=+bc;", "a=<bc;", "a=Ab;", "a=Bb;", "a=.b;",
		"^f;", "a~n;", "a~t;", "a~f;", "a~z;", "a~A;", "a~B;", "a~C;", "!;", "!;!;",
		"(a{}{})", "(a:n{}{})", "(f:f{^a;}{^b;})", "(!a{}{})", "(!!a:C{}{})", "(&ab{}{})", "(|a:nb:z{}{})", "(&|ab!&cd{}{})",
		"[a{}]", "[a{>;}]", "[a{<;}]", "[a{>;<;^a;}]", "[a{(b{>;}{<;})}]", "[a{[b{>;}]<;}]", "[a{}][b{}](a{}{})",
		"(a{(b{}{})}{(c{}{})})", "[a{(b{[c{>;}]>;}{(d{<;}{})})}]",
	} {
		if _, _, e := narrow.Run(s, "", 0); e != narrow.OK && e != narrow.ErrFuel {
			t.Errorf("P3: %q is a source, but Run answers %d", s, e)
		}
	}
}

func TestNoSources(t *testing.T) {
	for _, s := range []string{
		";", " ", "a", "a;", "a=", "a=;", "a=1", "a=12;", "a=1;;", "a=1; ", " a=1;", "a =1;", "a=1,", "a=1\n;", "\x00", "a=1;\x00",
		"g=1;", "A=1;", "a=g;", "a=t;", "a=n;", "a=z;", "a=A;", "a=B;", "a=.;", "a=+;", "a=+a;", "a=+abc;", "a=<b;", "a=+1b;", "a=+b1;",
		"a=A1;", "a=BT;", "a=Cb;", "a=.1;", "a=?b;", "a=>bc;", "a=-bc;", "a=^b;", "a=!;", "a=*;",
		"^;", "^1;", "^ab;", "^a", "^A;", "a~;", "a~a;", "a~b;", "a~T;", "a~F;", "a~Z;", "a~nn;", "a~", "a:n;", "a:n",
		"!", "!a;", "!!;", "*;", "*", "a,01;", "^a,00;",
		"(", ")", "(a", "(a{", "(a{}", "(a{}{", "(a{}{}", "(a{})", "(a{}{};", "(a{}{}]", "(a{} {})", "({}{})", "()", "(a)", "(a:{}{})", "(a:a{}{})",
		"(a:T{}{})", "(a:nn{}{})", "(ab{}{})", "(&a{}{})", "(|a{}{})", "(!{}{})", "(!;{}{})", "(&abc{}{})", "(a=1{}{})", "(a;{}{})", "(^a{}{})", "(1{}{})",
		"(a{a}{})", "(a{^a}{})", "(a{}{^a})", "(a{}{a:n})", "(a{}{})}", "(a{}{}{})", "(a{}{}));",
		"[", "]", "[]", "[a]", "[a{}", "[a{", "[a", "[a{})", "[a{}{}]", "[{}]", "[a{}];", "[a{}]]", "[a{a}]",
		"{", "}", "{}", "a=1;}", "{a=1;}",
		">;", "<;", "(a{>;}{})", "(a{}{<;})", "[a{}]>;", "[a{}]<;", ">;[a{}]", "[a{}](b{>;}{})", "[>;{}]", "[a{>}]", "[a{<}]", "[a{>>;}]", "[a{>a;}]", "[a{>;;}]",
		"a=1;[a{}])", "a=é;", "\xff", "a=1;\xff",
	} {
		told, out, e := narrow.Run(s, "1", 300)
		if e != narrow.ErrForm || told != "" || out != "" {
			t.Errorf("P3: %q is no source, but Run answers %q, %q, %d", s, told, out, e)
		}
	}
}

// TestParts: a source that is cut off within a statement is none.
func TestParts(t *testing.T) {
	source := "[&a!|b:nc{(d:A{}{})}]"
	for i := 1; i < len(source); i++ {
		if _, _, e := narrow.Run(source[:i], "", 9); e != narrow.ErrForm {
			t.Errorf("P3: Run(%q) answers %d", source[:i], e)
		}
		if _, _, e := narrow.Run(source[i:], "", 9); e != narrow.ErrForm {
			t.Errorf("P3: Run(%q) answers %d", source[i:], e)
		}
	}
}

// TestKindsTaken: each node at values of each kind.
func TestKindsTaken(t *testing.T) {
	inputs := "0TFZABC"
	signs := "ntfzABC"
	for _, c := range []struct {
		node, taken string
	}{
		{"a=1", signs}, {"a=T", signs}, {"a=F", signs}, {"a=Z", signs}, {"a=C", signs}, {"a=?", signs}, {"b=a", signs}, {"a=a", signs}, {"^a", signs},
		{"b=+aa", "n"}, {"b=+ac", "n"}, {"b=+ca", "n"}, {"a=+aa", "n"},
		{"b=<aa", "n"}, {"b=<ac", "n"}, {"b=<ca", "n"},
		{"b=Aa", "n"}, {"b=Ba", "tfz"}, {"b=.a", "AB"},
	} {
		for i := range inputs {
			sign := signs[i : i+1]
			told, out, e := narrow.Run("c=1;a=?;"+c.node+";^c;", inputs[i:i+1], 9)
			wantTold, wantE := "00 01 02 ", narrow.ErrKind
			if strings.Contains(c.taken, sign) {
				wantTold, wantE = "00 01 02 03 ", narrow.OK
			}
			if numbersTold(told) != wantTold || e != wantE || strings.HasSuffix(out, "1 ") != (e == narrow.OK) {
				t.Errorf("P4: %q at a value of kind %s: %q, %q, %d", c.node, sign, told, out, e)
			}
			if !strings.Contains(told, "02"+sign+"znzzz ") {
				t.Errorf("P4: %q at a value of kind %s: told %q", c.node, sign, told)
			}
		}
	}
}

// TestCast: each kind that can be asked for, at values of each kind.
func TestCast(t *testing.T) {
	inputs := "5TFZABC"
	signs := "ntfzABC"
	for i := range inputs {
		for k := range signs {
			told, out, e := narrow.Run("f=?;f~"+signs[k:k+1]+";^a;", inputs[i:i+1], 9)
			ahead := "00zzzzzz 01zzzzz" + signs[i:i+1] + " "
			if i == k && (e != narrow.OK || out != "Z " || told != ahead+"02zzzzz"+signs[i:i+1]+" ") {
				t.Errorf("P4: a %c asked for and met: %q, %q, %d", signs[k], told, out, e)
			}
			if i != k && (e != narrow.ErrCast || out != "" || told != ahead) {
				t.Errorf("P4: a %c asked for, a %c met: %q, %q, %d", signs[k], signs[i], told, out, e)
			}
		}
	}
}

// TestTests: each test at values of each kind.
func TestTests(t *testing.T) {
	inputs := "01TFZABC"
	signs := "nntfzABC"
	for i := range inputs {
		_, out, e := narrow.Run("e=?;f=T;(e{^f;}{})", inputs[i:i+1], 9)
		if e != narrow.OK || (out == "T ") != strings.Contains("1TABC", inputs[i:i+1]) {
			t.Errorf("P6: a test of %c: %q, %d", inputs[i], out, e)
		}
		for _, k := range "ntfzABC" {
			_, out, e := narrow.Run("e=?;f=T;(e:"+string(k)+"{^f;}{})", inputs[i:i+1], 9)
			if e != narrow.OK || (out == "T ") != (signs[i] == byte(k)) {
				t.Errorf("P6: is %c of kind %c: %q, %d", inputs[i], k, out, e)
			}
		}
	}
}

func TestEnds(t *testing.T) {
	checkRuns(t, "P4", []example{
		{"!;", "", 0, "", "", narrow.ErrFuel},
		{"!;", "", 1, "00zzzzzz ", "", narrow.ErrNever},
		{"a~n;", "", 0, "", "", narrow.ErrFuel},
		{"a~n;", "", 1, "00zzzzzz ", "", narrow.ErrCast},
		{"a=.a;", "", 0, "", "", narrow.ErrFuel},
		{"a=.a;", "", 1, "00zzzzzz ", "", narrow.ErrKind},
		{"^a;^b;!;", "", 2, "00zzzzzz 01zzzzzz ", "Z Z ", narrow.ErrFuel},
		{"^a;^b;!;", "", 3, "00zzzzzz 01zzzzzz 02zzzzzz ", "Z Z ", narrow.ErrNever},
		{"(a{}{})", "", 0, "", "", narrow.ErrFuel},
		{"(a{}{})", "", 1, "00zzzzzz ", "", narrow.OK},
		{"[a{}]", "", 1, "00zzzzzz ", "", narrow.OK},
		{"(|ab{}{})", "", 1, "00zzzzzz ", "", narrow.ErrFuel},
		{"(|ab{}{})", "", 2, "00zzzzzz 01zzzzzz ", "", narrow.OK},
	})
}

// TestFuel: what is told with less fuel begins what is told with more, a step more each time.
func TestFuel(t *testing.T) {
	source := "f=T;[f{a=?;(|a:na:t{^a;}{(a:z{>;}{<;})})}]^f;!;"
	all, allOut, e := narrow.Run(source, "1TFCZ9", 300)
	if e != narrow.ErrNever || allOut != "1 T T " {
		t.Fatalf("P4: %q, %q, %d", all, allOut, e)
	}
	steps := len(all) / 9
	for fuel := 0; fuel < steps; fuel++ {
		told, out, e := narrow.Run(source, "1TFCZ9", fuel)
		if e != narrow.ErrFuel || told != all[:9*fuel] || !strings.HasPrefix(allOut, out) {
			t.Errorf("P4: fuel %d: %q, %q, %d", fuel, told, out, e)
		}
	}
	for fuel := steps; fuel <= 300; fuel++ {
		told, out, e := narrow.Run(source, "1TFCZ9", fuel)
		if e != narrow.ErrNever || told != all || out != allOut {
			t.Errorf("P4: fuel %d: %q, %q, %d", fuel, told, out, e)
		}
	}
}

// TestNumbers: nodes have numbers as they stand in the text, whether they are come to or not.
func TestNumbers(t *testing.T) {
	source := "[" + strings.Repeat("|", 87) + strings.Repeat("a", 88) + "{}]"
	told, _, e := narrow.Run(source, "", 300)
	want := ""
	for i := 0; i < 88; i++ {
		want += fmt.Sprintf("%02dzzzzzz ", i)
	}
	if told != want || e != narrow.OK {
		t.Errorf("P4: %q, %d", told, e)
	}
	told, _, e = narrow.Run("(a{"+strings.Repeat("!;", 84)+"}{^a;!;})", "", 300)
	if told != "00zzzzzz 85zzzzzz 86zzzzzz " || e != narrow.ErrNever {
		t.Errorf("P4: %q, %d", told, e)
	}
	told, _, e = narrow.Run("c=1;[c{>;^a;<;^b;}]^c;", "", 9)
	if told != "00zzzzzz 01zznzzz 04zznzzz " || e != narrow.OK {
		t.Errorf("P4: %q, %d", told, e)
	}
}

func TestPutOut(t *testing.T) {
	checkRuns(t, "P5", []example{
		{"a=0;^a;", "", 2, "00zzzzzz 01nzzzzz ", "0 ", narrow.OK},
		{"f=9;^f;", "", 2, "00zzzzzz 01zzzzzn ", "9 ", narrow.OK},
		{"b=T;^b;", "", 2, "00zzzzzz 01ztzzzz ", "T ", narrow.OK},
		{"c=F;^c;", "", 2, "00zzzzzz 01zzfzzz ", "F ", narrow.OK},
		{"d=1;d=Z;^d;", "", 3, "00zzzzzz 01zzznzz 02zzzzzz ", "Z ", narrow.OK},
		{"e=C;^e;", "", 2, "00zzzzzz 01zzzzCz ", "C ", narrow.OK},
		{"a=7;b=Aa;^b;b=.b;^b;", "", 5, "00zzzzzz 01nzzzzz 02nAzzzz 03nAzzzz 04nnzzzz ", "A7 7 ", narrow.OK},
		{"a=T;b=Ba;^b;b=.b;^b;", "", 5, "00zzzzzz 01tzzzzz 02tBzzzz 03tBzzzz 04ttzzzz ", "BT T ", narrow.OK},
		{"a=F;b=Ba;^b;b=.b;^b;", "", 5, "00zzzzzz 01fzzzzz 02fBzzzz 03fBzzzz 04ffzzzz ", "BF F ", narrow.OK},
		{"a=1;b=Bc;^b;a=.b;^a;", "", 5, "00zzzzzz 01nzzzzz 02nBzzzz 03nBzzzz 04zBzzzz ", "BZ Z ", narrow.OK},
		{"a=1;b=Aa;c=b;a=2;d=.c;^d;^c;", "", 7, "00zzzzzz 01nzzzzz 02nAzzzz 03nAAzzz 04nAAzzz 05nAAnzz 06nAAnzz ", "1 A1 ", narrow.OK},
	})
}

// TestSums: sums wrap around from 1000 on; 999 is made of doubles of 9.
func TestSums(t *testing.T) {
	most := "a=9;b=+aa;c=+bb;d=+cc;e=+dd;f=+ee;a=+ab;a=+ac;a=+ad;a=+af;f=+ff;a=+af;"
	_, out, e := narrow.Run(most+"^a;b=1;c=+ab;^c;c=+ba;^c;c=+aa;^c;b=Aa;^b;d=<ca;^d;d=<ac;^d;d=<aa;^d;", "", 300)
	if want := "999 0 0 998 A999 T F F "; out != want || e != narrow.OK {
		t.Errorf("P4 and P5: %q, %d, want %q", out, e, want)
	}
}

func TestInput(t *testing.T) {
	for i := 0; i < 256; i++ {
		sign, value := byte(i), "Z "
		switch {
		case sign >= '0' && sign <= '9', sign == 'T', sign == 'F', sign == 'C':
			value = string(rune(sign)) + " "
		case sign == 'A':
			value = "A0 "
		case sign == 'B':
			value = "BZ "
		}
		_, out, e := narrow.Run("a=C;a=?;^a;a=?;^a;a=?;^a;", string([]byte{sign, '5'}), 9)
		if want := value + "5 Z "; out != want || e != narrow.OK {
			t.Errorf("P4: the byte %d of the input: %q, %d, want %q", i, out, e, want)
		}
	}
	// One step, and three for each value that is put out.
	_, out, e := narrow.Run("a=T;[a{b=?;^b;}]", "19", 1+3*32)
	if want := "1 9 " + strings.Repeat("Z ", 30); out != want || e != narrow.ErrFuel {
		t.Errorf("P4: behind the end of the input: %q, %d", out, e)
	}
}

func TestChoices(t *testing.T) {
	for _, c := range []struct{ source, input, numbers, out string }{
		{"a=?;(a{^a;}{^b;})^c;", "1", "00 01 02 04 ", "1 Z "},
		{"a=?;(a{^a;}{^b;})^c;", "0", "00 01 03 04 ", "Z Z "},
		{"a=?;(a{}{^b;})^c;", "1", "00 01 03 ", "Z "},
		{"a=?;(a{^a;}{})^c;", "0", "00 01 03 ", "Z "},
		{"a=?;(a{}{})^c;", "0", "00 01 02 ", "Z "},
		{"a=?;(a{(b{}{^a;})}{!;})^c;", "2", "00 01 02 03 05 ", "2 Z "},
		{"a=?;(!a{^a;}{^b;})", "0", "00 01 02 ", "0 "},
		{"a=?;(!!a{^a;}{^b;})", "0", "00 01 03 ", "Z "},
	} {
		told, out, e := narrow.Run(c.source, c.input, 99)
		if numbersTold(told) != c.numbers || out != c.out || e != narrow.OK {
			t.Errorf("P6: Run(%q, %q): %q, %q, %d", c.source, c.input, told, out, e)
		}
	}
}

// TestConditions: which tests a condition makes, and whether it holds.
func TestConditions(t *testing.T) {
	for _, c := range []struct{ condition, input, numbers, out string }{
		{"&ab", "FF", "02 ", "F "}, {"&ab", "FT", "02 ", "F "}, {"&ab", "TF", "02 03 ", "F "}, {"&ab", "TT", "02 03 ", "T "},
		{"|ab", "FF", "02 03 ", "F "}, {"|ab", "FT", "02 03 ", "T "}, {"|ab", "TF", "02 ", "T "}, {"|ab", "TT", "02 ", "T "},
		{"!&ab", "FF", "02 ", "T "}, {"!&ab", "TT", "02 03 ", "F "}, {"!|ab", "FF", "02 03 ", "T "}, {"!|ab", "TF", "02 ", "F "},
		{"&!ab", "TT", "02 ", "F "}, {"&!ab", "FT", "02 03 ", "T "}, {"|!ab", "FT", "02 ", "T "}, {"|!ab", "TF", "02 03 ", "F "},
		{"&a!b", "TF", "02 03 ", "T "}, {"|a!b", "FT", "02 03 ", "F "},
		{"&|abb", "TF", "02 04 ", "F "}, {"&|abb", "FF", "02 03 ", "F "}, {"&|abb", "FT", "02 03 04 ", "T "},
		{"|&abb", "FT", "02 04 ", "T "}, {"|&abb", "TT", "02 03 ", "T "}, {"|&abb", "TF", "02 03 04 ", "F "},
		{"&a|ba", "TF", "02 03 04 ", "T "}, {"|a&ba", "FT", "02 03 04 ", "F "}, {"&a:tb:f", "TF", "02 03 ", "T "}, {"|a:fb:f", "TT", "02 03 ", "F "},
	} {
		told, out, e := narrow.Run("a=?;b=?;("+c.condition+"{c=T;}{c=F;})^c;", c.input, 99)
		numbers := numbersTold(told)
		if !strings.HasPrefix(numbers, "00 01 "+c.numbers) || len(numbers) != len(c.numbers)+12 || out != c.out || e != narrow.OK {
			t.Errorf("P6: the condition %q at %q: %q, %q, %d", c.condition, c.input, told, out, e)
		}
	}
}

func TestLoops(t *testing.T) {
	for _, c := range []struct {
		source, input string
		numbers, out  string
	}{
		{"[a{!;}]^a;", "", "00 02 ", "Z "},
		{"a=?;[a{a=?;}]^a;", "12F", "00 01 02 01 02 01 03 ", "F "},
		{"a=?;[!a{a=?;}]^a;", "FZ3", "00 01 02 01 02 01 03 ", "3 "},
		{"a=T;[a{>;!;}]^a;", "", "00 01 03 ", "T "},
		{"a=T;[a{a=?;<;!;}]^a;", "F", "00 01 02 01 04 ", "F "},
		{"a=T;[&ab{!;}][|ab{>;}]^a;", "", "00 01 02 04 06 ", "T "},
		// What leaves or goes on within two loops does so with the inner one.
		{"a=T;[a{b=T;[b{>;}]a=F;}]^b;", "", "00 01 02 03 04 01 05 ", "T "},
		{"a=T;[a{b=T;[b{b=?;<;!;}]a=?;}]^b;", "1FF", "00 01 02 03 04 03 04 03 06 01 07 ", "F "},
		// Behind the inner loop it is the outer one again.
		{"a=T;[a{[b{}]>;!;}]^a;", "", "00 01 02 04 ", "T "},
		{"a=T;[a{[b{}]a=?;<;!;}]^a;", "F", "00 01 02 03 01 05 ", "F "},
		// Within a choice, within a loop.
		{"a=T;[a{b=?;(b{<;}{>;})!;}]^b;", "1F", "00 01 02 03 01 02 03 05 ", "F "},
		{"a=T;[a{(b{>;}{})b=?;}]^b;", "3", "00 01 02 03 01 02 04 ", "3 "},
		{"a=?;[a{(a{}{!;})a=?;}]", "1", "00 01 02 04 01 ", ""},
	} {
		told, out, e := narrow.Run(c.source, c.input, 99)
		if numbersTold(told) != c.numbers || out != c.out || e != narrow.OK {
			t.Errorf("P6: Run(%q, %q): %q, %q, %d", c.source, c.input, numbersTold(told), out, e)
		}
	}
}
