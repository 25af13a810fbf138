"""Where it lies: things in a row behind a counter, and the steps that fetching them takes."""
