"""An office at work: cases, the processes they go by, and the rules they keep."""
