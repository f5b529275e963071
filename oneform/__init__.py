"""Documents of elements, read strictly and told in one form."""
