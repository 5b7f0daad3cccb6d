package wire

import (
	"slices"
	"testing"
)

func TestP6_3Pieces(t *testing.T) {
	text := []byte("onetwo34fivesixsseveneigninetenn")
	for n := range len(text) + 1 {
		var got []string
		for piece := range pieces(text[:n]) {
			got = append(got, string(piece))
		}
		want := []string{"onetwo34", "fivesixs", "seveneig", "ninetenn"}[:n/8]
		if !slices.Equal(got, want) {
			t.Errorf("pieces of %d bytes: %q, want %q", n, got, want)
		}
	}
}

// One that is left early ends there, and can be gone through anew.
func TestP6_3PiecesLeftEarly(t *testing.T) {
	all := pieces([]byte("onetwo34fivesixsseveneig"))
	for range 2 {
		seen := ""
		for piece := range all {
			seen += string(piece)
			if len(seen) == 16 {
				break
			}
		}
		if seen != "onetwo34fivesixs" {
			t.Errorf("seen: %q", seen)
		}
	}
}
