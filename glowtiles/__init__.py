"""A texture generator: pictures on a stack, made and changed by a sequence of calls."""
