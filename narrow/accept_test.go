package narrow_test

import (
	"strings"
	"testing"

	"narrow/narrow"
)

func checkAccept(t *testing.T, graph string, e narrow.Errno, at int) {
	t.Helper()
	if gotE, gotAt := narrow.Accept(graph); gotE != e || gotAt != at {
		t.Errorf("P13: Accept(%q) = %d, %d, want %d, %d", graph, gotE, gotAt, e, at)
	}
}

func TestAcceptExamplesOfTheDocument(t *testing.T) {
	checkAccept(t, "a=?,01;a:n,02,04;b=+aa,03;^b,05;^a,05;", narrow.OK, 0)
	checkAccept(t, "a=?,01;b=+aa,02;", narrow.ErrKind, 1)
	checkAccept(t, "a=1,01;a:n,02,03;^a,04;!;", narrow.OK, 0)
}

func TestAcceptLimits(t *testing.T) {
	lines := func(line string, count int) string { return strings.Repeat(line, count) }
	checkAccept(t, lines("a:n,00,90;", 90), narrow.OK, 0)
	checkAccept(t, lines("a:n,00,90;", 90)+"x", narrow.ErrLong, 0)
	checkAccept(t, lines("x", 901), narrow.ErrLong, 0)
	checkAccept(t, lines("x", 900), narrow.ErrForm, 0)
	checkAccept(t, lines("*,90;", 90), narrow.OK, 0)
	// Of a line too many there is the place where it begins, whatever stands in it.
	checkAccept(t, lines("*,90;", 91), narrow.ErrForm, 450)
	checkAccept(t, lines("*,99;", 91), narrow.ErrForm, 450)
	checkAccept(t, lines("!;", 91), narrow.ErrForm, 180)
	checkAccept(t, lines("!;", 90)+"*", narrow.ErrForm, 180)
	checkAccept(t, lines("!;", 90)+"a=;", narrow.ErrForm, 180)
	checkAccept(t, lines("!;", 90)+"x", narrow.ErrForm, 180)
	checkAccept(t, lines("!;", 92)+"x", narrow.ErrForm, 180)
	// What goes wrong ahead of it comes first.
	checkAccept(t, lines("!;", 89)+"!!;!;!;", narrow.ErrForm, 179)
	checkAccept(t, "!x;"+lines("!;", 100), narrow.ErrForm, 1)
	checkAccept(t, lines("!;", 89)+"*,9", narrow.ErrForm, 181)
}

// TestPlacesInGraphs: a text that goes wrong, with a mark ahead of the byte that cannot stand there.
func TestPlacesInGraphs(t *testing.T) {
	for _, marked := range []string{
		"@x", "@;", "@,00;", "@ ", "@\x00", "@\xff", "@(a", "@[a", "@&ab", "@>;", "@<;", "@0", "@A",
		"*@", "*@;", "*@*,00;", "*,@", "*,@;", "*,@x", "*,0@", "*,0@;", "*,00@", "*,00@,00;", "*,00@0;", "*,00@x", "*,00;@;", "*,00;@ ", "*,00;*@", "*@ ,00;", "*@00;",
		"!@", "!@,00;", "!@!", "!;@,", "!;!@,", "a@", "a@;", "a@b", "a@ ", "a@\x00", "a,@", "a,00@", "a,00@;", "a,00,@", "a,00,@;", "a,00,0@x", "a,00,00@", "a,00,00@,", "a,99,99@x",
		"a:@", "a:@,", "a:@T", "a:@a", "a:n@", "a:n@n", "a:n@;", "a:n,00@;", "a~@", "a~@,", "a~@T", "a~n@", "a~n@;", "a~n,00@,00;",
		"a=@", "a=@,", "a=@t", "a=@g", "a=@*", "a=1@", "a=1@1", "a=1@;", "a=1,00@,00;", "a=b@b", "a=b@;", "a=+@", "a=+@,", "a=+b@", "a=+b@,", "a=+bc@c", "a=+bc@;", "a=<@1", "a=<bc@",
		"a=A@,", "a=A@1", "a=B@T", "a=Bb@;", "a=.@.", "a=.b@c", "a=?@?", "a=C@b", "^@", "^@,", "^@g", "^a@", "^a@a", "^a@;", "^a,01@,01;", "@g,00,00;", "@G=1,00;",
	} {
		before, behind, _ := strings.Cut(marked, "@")
		checkAccept(t, before+behind, narrow.ErrForm, len(before))
		checkAccept(t, "a=1,99;!;"+before+behind, narrow.ErrForm, 9+len(before))
	}
}

func TestFirstWrongWay(t *testing.T) {
	checkAccept(t, "*,02;", narrow.ErrLink, 0)
	checkAccept(t, "*,01;*,03;", narrow.ErrLink, 1)
	checkAccept(t, "*,02;a,02,03;*,99;*,99;", narrow.ErrLink, 2)
	checkAccept(t, "!;!;a,04,00;", narrow.ErrLink, 2)
	checkAccept(t, "!;!;a:n,00,04;", narrow.ErrLink, 2)
	checkAccept(t, "!;a,00,04;a,04,00;", narrow.ErrLink, 1)
	checkAccept(t, "a=+bc,01;!;^a,04;", narrow.ErrLink, 2)
	checkAccept(t, strings.Repeat("*,90;", 89)+"*,91;", narrow.ErrLink, 89)
}

// TestFaultsOfEachNode: what each node takes, of a and b that can be of one kind each, or of every kind.
func TestFaultsOfEachNode(t *testing.T) {
	takes := func(kinds string) map[string]bool {
		taken := map[string]bool{}
		for _, k := range kinds {
			taken[string(k)] = true
		}
		return taken
	}
	for _, c := range []struct{ node, y, w string }{
		{"*", "ntfzABC", "ntfzABC"}, {"^a", "ntfzABC", "ntfzABC"}, {"c=1", "ntfzABC", "ntfzABC"}, {"c=C", "ntfzABC", "ntfzABC"}, {"c=?", "ntfzABC", "ntfzABC"}, {"c=a", "ntfzABC", "ntfzABC"},
		{"c=+ab", "n", "n"}, {"c=<ab", "n", "n"}, {"a=+ab", "n", "n"}, {"b=<ab", "n", "n"}, {"c=+aa", "n", "ntfzABC"}, {"c=<bb", "ntfzABC", "n"},
		{"c=Aa", "n", "ntfzABC"}, {"a=Aa", "n", "ntfzABC"}, {"c=Ba", "tfz", "ntfzABC"}, {"c=.a", "AB", "ntfzABC"}, {"c=.b", "ntfzABC", "AB"}, {"b=.b", "ntfzABC", "AB"},
		{"a~n", "ntfzABC", "ntfzABC"}, {"a~C", "ntfzABC", "ntfzABC"}, {"c~n", "ntfzABC", "ntfzABC"},
		{"a,05,05", "ntfzABC", "ntfzABC"}, {"a:n,05,05", "ntfzABC", "ntfzABC"},
	} {
		y, w := takes(c.y), takes(c.w)
		end := ",05;"
		if strings.Contains(c.node, ",") {
			end = ";"
		}
		for _, k := range kindsInOrder {
			for _, l := range kindsInOrder {
				want, at := narrow.OK, 0
				if !y[string(k)] || !w[string(l)] {
					want, at = narrow.ErrKind, 4
				}
				checkAccept(t, "a=?,01;b=?,02;a~"+string(k)+",03;b~"+string(l)+",04;"+c.node+end, want, at)
			}
		}
		want, at := narrow.OK, 0
		if len(y) < 7 || len(w) < 7 {
			want, at = narrow.ErrKind, 4
		}
		checkAccept(t, "a=?,01;b=?,02;*,03;*,04;"+c.node+end, want, at)
	}
}

func TestFaults(t *testing.T) {
	for _, c := range []struct {
		graph string
		e     narrow.Errno
		at    int
	}{
		{"", narrow.OK, 0},
		{"!;", narrow.ErrNever, 0},
		{"*,01;!;", narrow.ErrNever, 1},
		{"a=.b,01;", narrow.ErrKind, 0},
		// What cannot be come to is no fault.
		{"*,02;!;", narrow.OK, 0},
		{"*,02;a=+bc,02;", narrow.OK, 0},
		{"a,01,02;!;", narrow.OK, 0},
		{"a~n,01;!;", narrow.OK, 0},
		{"a~z,01;!;", narrow.ErrNever, 1},
		// The first by the numbers of the lines counts, not by a walk.
		{"*,02;!;a=+bc,03;", narrow.ErrKind, 2},
		{"a=?,03;a=+bc,04;!;a,01,02;", narrow.ErrKind, 1},
		{"a=?,03;!;a=+bc,04;a,01,02;", narrow.ErrNever, 1},
		{"a=?,01;a,02,03;b=+aa,04;!;", narrow.ErrKind, 2},
		{"a=?,01;a:n,02,03;b=+aa,04;!;", narrow.ErrNever, 3},
		// A fault that only some way around brings.
		{"a=?,01;b=?,02;a:n,03,05;b:n,04,05;c=+ab,02;", narrow.OK, 0},
		{"a=1,01;b=+aa,02;a=?,01;", narrow.ErrKind, 1},
		{"a=1,01;b=+aa,02;a=b,01;", narrow.OK, 0},
		// A value that is looked at twice, and one of two that is wrong.
		{"a=1,01;c=+ab,02;", narrow.ErrKind, 1},
		{"a=1,01;c=+ba,02;", narrow.ErrKind, 1},
		{"a=1,01;c=<ab,02;", narrow.ErrKind, 1},
		{"a=1,01;b=2,02;c=<ab,03;d=Bc,04;e=.d,05;", narrow.OK, 0},
		{"a=1,01;b=2,02;c=<ab,03;d=Bc,04;e=.c,05;", narrow.ErrKind, 4},
		{"a=C,01;b=.a,02;", narrow.ErrKind, 1},
	} {
		checkAccept(t, c.graph, c.e, c.at)
	}
}
