package machine

import "testing"

func TestStackTakesTheLastFirst(t *testing.T) {
	var numbers Stack[int]
	var names Stack[string]
	for i, name := range []string{"a", "b", "c"} {
		numbers.Push(i)
		names.Push(name)
	}
	if numbers.Pop() != 2 || names.Pop() != "c" || numbers.Len() != 2 || names.Len() != 2 {
		t.Error("the last one was not taken")
	}
	numbers.Push(9)
	for i, want := range []int{9, 1, 0} {
		if got := numbers.Pop(); got != want || numbers.Len() != 2-i {
			t.Errorf("Pop = %d, Len = %d behind it, want %d, %d", got, numbers.Len(), want, 2-i)
		}
	}
}
