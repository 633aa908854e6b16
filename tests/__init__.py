"""The tests of everydue; run them by `python3 -m unittest discover -s tests -t .`"""
