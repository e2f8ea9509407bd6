"""The tests of suretexts, run by python3 -m unittest discover -s tests -t ."""
