package lists

import (
	"slices"
	"strconv"
	"strings"
	"testing"

	"lenslet/api"
)

func TestFirstError(t *testing.T) {
	for _, row := range []struct {
		errors []api.Errno
		want   api.Errno
	}{
		{nil, api.OK},
		{[]api.Errno{api.OK, api.OK}, api.OK},
		{[]api.Errno{api.OK, api.ErrRule, api.ErrForm}, api.ErrRule},
	} {
		if e := FirstError(row.errors...); e != row.want {
			t.Errorf("FirstError of %v: got %d, want %d", row.errors, e, row.want)
		}
	}
}

func TestCheckCount(t *testing.T) {
	for n, want := range map[int]api.Errno{0: api.ErrEmpty, 1: api.OK, 3: api.OK, 4: api.ErrMany, 1000: api.ErrMany} {
		if e := CheckCount(n, 3); e != want {
			t.Errorf("CheckCount of %d: got %d, want %d", n, e, want)
		}
	}
}

func TestCheckRange(t *testing.T) {
	for n, want := range map[int]api.Errno{-1: api.ErrRange, 1: api.ErrRange, 2: api.OK, 3: api.OK, 5: api.OK, 6: api.ErrRange} {
		if e := CheckRange(n, 2, 5); e != want {
			t.Errorf("CheckRange of %d: got %d, want %d", n, e, want)
		}
	}
}

func TestFirstBad(t *testing.T) {
	check := func(n int) api.Errno { return api.Errno(n) }
	if e := FirstBad([]int{0, 3, 5}, check); e != api.ErrRange {
		t.Errorf("FirstBad: got %d", e)
	}
	if e := FirstBad([]int{0, 0}, check); e != api.OK {
		t.Errorf("FirstBad without errors: got %d", e)
	}
}

func TestMapped(t *testing.T) {
	if got := Mapped([]int{3, -1, 20}, strconv.Itoa); !slices.Equal(got, []string{"3", "-1", "20"}) {
		t.Errorf("Mapped: got %v", got)
	}
	if got := Mapped(nil, strconv.Itoa); len(got) != 0 {
		t.Errorf("Mapped of no elements: got %v", got)
	}
}

func TestChecked(t *testing.T) {
	half := func(n int) (int, api.Errno) {
		if n%2 != 0 {
			return 0, api.Errno(n)
		}
		return n / 2, api.OK
	}
	if got, e := Checked([]int{4, -2, 0}, half); e != api.OK || !slices.Equal(got, []int{2, -1, 0}) {
		t.Errorf("Checked: got %v, error %d", got, e)
	}
	if got, e := Checked([]int{4, 3, 5}, half); e != api.ErrRange || got != nil {
		t.Errorf("Checked with an error: got %v, error %d", got, e)
	}
}

func TestSum(t *testing.T) {
	join := func(a, b string) string { return a + b }
	for _, text := range []string{"", "a", "ab", "abc", "abcdefg"} {
		if got := Sum(strings.Split(text, ""), join); got != text {
			t.Errorf("Sum of the letters of %q: got %q", text, got)
		}
	}
}

func TestDot(t *testing.T) {
	repeat := func(a, b string) string { return strings.Repeat(a, len(b)) }
	join := func(a, b string) string { return a + b }
	if got := Dot([]string{"a", "b", "c"}, []string{"xx", "", "x"}, repeat, join); got != "aac" {
		t.Errorf("Dot: got %q", got)
	}
	if got := Dot(nil, nil, repeat, join); got != "" {
		t.Errorf("Dot of no elements: got %q", got)
	}
}
