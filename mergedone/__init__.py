"""The one record made of several: mergedone.desk.answers answers the calls about one desk."""
