"""Speech in two bands: samples to bytes and back. The calls are answered by twobands.ends.answers."""
