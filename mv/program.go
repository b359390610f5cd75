package mv

const (
	mostSteps = 200
	mostBytes = 16
)

// right tells whether the steps are a program for a store of that many keys.
func right(program []Step, keys int) bool {
	if len(program) > mostSteps {
		return false
	}
	open := false
	for _, step := range program {
		if open == (step.Kind == begin) || !whole(step, keys) {
			return false
		}
		open = !ends(step)
	}
	return true
}

// whole tells whether the step, taken alone, is one.
func whole(step Step, keys int) bool {
	isKey := step.Key >= 0 && step.Key < keys
	switch step.Kind {
	case begin, commit, abort:
		return step.Key == 0 && step.Value == ""
	case get, remove:
		return isKey && step.Value == ""
	case put:
		return isKey && len(step.Value) <= mostBytes
	}
	return false
}

// ends tells whether the step is the last one of its transaction.
func ends(step Step) bool {
	return step.Kind == commit || step.Kind == abort
}
